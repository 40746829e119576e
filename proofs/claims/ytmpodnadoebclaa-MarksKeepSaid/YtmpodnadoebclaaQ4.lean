/- ids; marks: which may be; marks gone through: the one below an id; a mark put in its place; ids that are due; what the laws begin with: marks of ids, with canvases of numbers. No condition. -/
import Derived.Test.YtmpodnadoebclaaQ3
import Derived.Test.YtmpodnadoebclaaRows
namespace Go.Proofs.Ytmpodnadoebclaa
set_option maxRecDepth 4000
set_option linter.unusedVariables false
set_option linter.unusedSimpArgs false
open Go.RowKit
theorem eq35 {a b : I3} : eqT Try.prog 9 35 (idc a) (idc b) = some (decide (a = b)) := by
  have e : decide (a = b) = ((a.t == b.t) && ((a.s == b.s) && ((a.q == b.q) && true))) := by
    obtain ⟨x, y, z⟩ := a
    obtain ⟨x', y', z'⟩ := b
    rw [Bool.eq_iff_iff]
    simp
  rw [e]
  exact (show eqT Try.prog 9 35 [.int .u64 a.t, .int .i64 a.s, .int .u64 a.q] [.int .u64 b.t, .int .i64 b.s, .int .u64 b.q] = some ((a.t == b.t) && ((a.s == b.s) && ((a.q == b.q) && true))) by kernel_rfl)
theorem fo35_0 : fdO Try.prog 35 0 = some 0 := by kernel_rfl
theorem fo35_1 : fdO Try.prog 35 1 = some 1 := by kernel_rfl
theorem fo35_2 : fdO Try.prog 35 2 = some 2 := by kernel_rfl
theorem gd35 : Try.prog.eqGuardType Try.prog.depth 35 = false := by kernel_rfl
theorem sl22 : slE Try.prog 22 = some (35, 3, 24) := by kernel_rfl
theorem sl31 : slE Try.prog 31 = some (3, 1, 8) := by kernel_rfl
theorem tb22 : tyB Try.prog 22 = some (false, 1) := by kernel_rfl
theorem tb33 : tyB Try.prog 33 = some (false, 1) := by kernel_rfl
theorem tb35 : tyB Try.prog 35 = some (true, 3) := by kernel_rfl
theorem zr35 : zrC Try.prog 35 = some [.int .u64 0, .int .i64 0, .int .u64 0] := by kernel_rfl
theorem tkmin {α : Type} (l : List α) (n : Nat) : l.take (min l.length n) = l.take n := by
  rcases Nat.le_total l.length n with h | h
  · rw [Nat.min_eq_left h, List.take_length, List.take_of_length_le h]
  · rw [Nat.min_eq_right h]
set_option maxRecDepth 4000 in
set_option maxHeartbeats 1000000 in
theorem isNaN_u64 (n : Int) : DFun Try.prog 84 [.val (.int .u64 n)] [] (.val (.bool false)) [] := by
  refine zao (N := 6) 0 (by kernel_rfl) Try.func84 rfl rfl rfl (by simp only [fr0, Nat.zero_add, Nat.reduceAdd]; exact rfl) rfl fun s0 hs0 => ?_
  refine zae ?_
  refine zad ?_
  refine zab rfl rfl rfl (zac (.inr rfl) (ev1 rfl)) ?_
  refine zaf ?_
  refine zae ?_
  refine zad ?_
  refine zab rfl rfl rfl (zac (.inl rfl) (ev1 rfl)) ?_
  refine zab rfl rfl rfl (zac (.inl rfl) (ev1 rfl)) ?_
  refine zab rfl rfl rfl (op_neq rfl (ev1 rfl) (ev1 rfl)) ?_
  refine zab rfl rfl rfl (zac (.inr rfl) (ev1 rfl)) ?_
  refine zaf ?_
  refine dwp_ret ?_
  refine kend0 (rs1 rfl (rv_t rfl)) rfl ?_
  simp
set_option maxRecDepth 4000 in
set_option maxHeartbeats 1000000 in
theorem cmp_u64 (x y : Int) : DFun Try.prog 80 [.val (.int .u64 x), .val (.int .u64 y)] [] (.val (.int .i64 (cmpI x y))) [] := by
  refine zao (N := 20) 0 (by kernel_rfl) Try.func80 rfl rfl rfl (by simp only [fr0, Nat.zero_add, Nat.reduceAdd]; exact rfl) rfl fun s0 hs0 => ?_
  refine zae ?_
  refine zad ?_
  refine zab rfl rfl rfl (zac (.inr rfl) (ev1 rfl)) ?_
  refine zaf ?_
  refine zae ?_
  refine zad ?_
  refine zab rfl rfl rfl (zac (.inl rfl) (ev1 rfl)) ?_
  refine zab rfl rfl rfl (zah [] [] [] rfl (ev1 rfl) (ec (ev1 rfl) en) rfl rfl (isNaN_u64 _) rfl rfl rfl rfl rfl rfl) ?_
  refine zab rfl rfl rfl (zac (.inr rfl) (ev1 rfl)) ?_
  refine zaf ?_
  refine zae ?_
  refine zad ?_
  refine zab rfl rfl rfl (zac (.inl rfl) (ev1 rfl)) ?_
  refine zab rfl rfl rfl (zah [] [] [] rfl (ev1 rfl) (ec (ev1 rfl) en) rfl rfl (isNaN_u64 _) rfl rfl rfl rfl rfl rfl) ?_
  refine zab rfl rfl rfl (zac (.inr rfl) (ev1 rfl)) ?_
  refine zaf ?_
  refine zae ?_
  refine zae ?_
  refine zad ?_
  refine zab rfl rfl rfl (zac (.inl rfl) (ev1 rfl)) ?_
  refine zaf ?_
  refine dwp_if_f rfl (rfl) ?_
  refine zal ?_
  refine zae ?_
  refine zae ?_
  refine zad ?_
  refine zab rfl rfl rfl (zac (.inl rfl) (ev1 rfl)) ?_
  refine zaf ?_
  refine dwp_if_f rfl (rfl) ?_
  refine zal ?_
  refine zae ?_
  refine zae ?_
  refine zad ?_
  refine zab rfl rfl rfl (zac (.inl rfl) (ev1 rfl)) ?_
  refine zab rfl rfl rfl (zac (.inl rfl) (ev1 rfl)) ?_
  refine zab rfl rfl rfl (op_lss rfl (ev1 rfl) (ev1 rfl)) ?_
  refine zaf ?_
  refine dwp_cond rfl (fun c3 => ?_) (fun c3 => ?_)
  · try simp only [decide_eq_true_eq, decide_eq_false_iff_not, beq_iff_eq, bne_iff_ne, beq_eq_false_iff_ne, bne_eq_false_iff_eq, Bool.not_eq_true', Bool.not_eq_false', Bool.and_eq_true, Bool.or_eq_true, Bool.or_eq_false_iff, ne_eq, Decidable.not_not, Int.not_lt, Int.not_le] at c3
    refine zae ?_
    refine zad ?_
    refine zab rfl rfl rfl (zac (.inr rfl) (ev1 rfl)) ?_
    refine zaf ?_
    refine dwp_ret ?_
    refine kend0 (rs1 rfl (rv_t rfl)) rfl ?_
    simp_all [cmpI]; try omega
  · try simp only [decide_eq_true_eq, decide_eq_false_iff_not, beq_iff_eq, bne_iff_ne, beq_eq_false_iff_ne, bne_eq_false_iff_eq, Bool.not_eq_true', Bool.not_eq_false', Bool.and_eq_true, Bool.or_eq_true, Bool.or_eq_false_iff, ne_eq, Decidable.not_not, Int.not_lt, Int.not_le] at c3
    refine zal ?_
    refine zae ?_
    refine zae ?_
    refine zad ?_
    refine zab rfl rfl rfl (zac (.inl rfl) (ev1 rfl)) ?_
    refine zab rfl rfl rfl (zac (.inl rfl) (ev1 rfl)) ?_
    refine zab rfl rfl rfl (op_gtr rfl (ev1 rfl) (ev1 rfl)) ?_
    refine zaf ?_
    refine dwp_cond rfl (fun c4 => ?_) (fun c4 => ?_)
    · try simp only [decide_eq_true_eq, decide_eq_false_iff_not, beq_iff_eq, bne_iff_ne, beq_eq_false_iff_ne, bne_eq_false_iff_eq, Bool.not_eq_true', Bool.not_eq_false', Bool.and_eq_true, Bool.or_eq_true, Bool.or_eq_false_iff, ne_eq, Decidable.not_not, Int.not_lt, Int.not_le] at c4
      refine zae ?_
      refine zad ?_
      refine zab rfl rfl rfl (zac (.inr rfl) (ev1 rfl)) ?_
      refine zaf ?_
      refine dwp_ret ?_
      refine kend0 (rs1 rfl (rv_t rfl)) rfl ?_
      simp_all [cmpI]; try omega
    · try simp only [decide_eq_true_eq, decide_eq_false_iff_not, beq_iff_eq, bne_iff_ne, beq_eq_false_iff_ne, bne_eq_false_iff_eq, Bool.not_eq_true', Bool.not_eq_false', Bool.and_eq_true, Bool.or_eq_true, Bool.or_eq_false_iff, ne_eq, Decidable.not_not, Int.not_lt, Int.not_le] at c4
      refine zal ?_
      refine zae ?_
      refine zad ?_
      refine zab rfl rfl rfl (zac (.inr rfl) (ev1 rfl)) ?_
      refine zaf ?_
      refine dwp_ret ?_
      refine kend0 (rs1 rfl (rv_t rfl)) rfl ?_
      simp_all [cmpI]; try omega
set_option maxRecDepth 4000 in
set_option maxHeartbeats 1000000 in
theorem isNaN_i64 (n : Int) : DFun Try.prog 85 [.val (.int .i64 n)] [] (.val (.bool false)) [] := by
  refine zao (N := 6) 0 (by kernel_rfl) Try.func85 rfl rfl rfl (by simp only [fr0, Nat.zero_add, Nat.reduceAdd]; exact rfl) rfl fun s0 hs0 => ?_
  refine zae ?_
  refine zad ?_
  refine zab rfl rfl rfl (zac (.inr rfl) (ev1 rfl)) ?_
  refine zaf ?_
  refine zae ?_
  refine zad ?_
  refine zab rfl rfl rfl (zac (.inl rfl) (ev1 rfl)) ?_
  refine zab rfl rfl rfl (zac (.inl rfl) (ev1 rfl)) ?_
  refine zab rfl rfl rfl (op_neq rfl (ev1 rfl) (ev1 rfl)) ?_
  refine zab rfl rfl rfl (zac (.inr rfl) (ev1 rfl)) ?_
  refine zaf ?_
  refine dwp_ret ?_
  refine kend0 (rs1 rfl (rv_t rfl)) rfl ?_
  simp
set_option maxRecDepth 4000 in
set_option maxHeartbeats 1000000 in
theorem cmp_i64 (x y : Int) : DFun Try.prog 81 [.val (.int .i64 x), .val (.int .i64 y)] [] (.val (.int .i64 (cmpI x y))) [] := by
  refine zao (N := 20) 0 (by kernel_rfl) Try.func81 rfl rfl rfl (by simp only [fr0, Nat.zero_add, Nat.reduceAdd]; exact rfl) rfl fun s0 hs0 => ?_
  refine zae ?_
  refine zad ?_
  refine zab rfl rfl rfl (zac (.inr rfl) (ev1 rfl)) ?_
  refine zaf ?_
  refine zae ?_
  refine zad ?_
  refine zab rfl rfl rfl (zac (.inl rfl) (ev1 rfl)) ?_
  refine zab rfl rfl rfl (zah [] [] [] rfl (ev1 rfl) (ec (ev1 rfl) en) rfl rfl (isNaN_i64 _) rfl rfl rfl rfl rfl rfl) ?_
  refine zab rfl rfl rfl (zac (.inr rfl) (ev1 rfl)) ?_
  refine zaf ?_
  refine zae ?_
  refine zad ?_
  refine zab rfl rfl rfl (zac (.inl rfl) (ev1 rfl)) ?_
  refine zab rfl rfl rfl (zah [] [] [] rfl (ev1 rfl) (ec (ev1 rfl) en) rfl rfl (isNaN_i64 _) rfl rfl rfl rfl rfl rfl) ?_
  refine zab rfl rfl rfl (zac (.inr rfl) (ev1 rfl)) ?_
  refine zaf ?_
  refine zae ?_
  refine zae ?_
  refine zad ?_
  refine zab rfl rfl rfl (zac (.inl rfl) (ev1 rfl)) ?_
  refine zaf ?_
  refine dwp_if_f rfl (rfl) ?_
  refine zal ?_
  refine zae ?_
  refine zae ?_
  refine zad ?_
  refine zab rfl rfl rfl (zac (.inl rfl) (ev1 rfl)) ?_
  refine zaf ?_
  refine dwp_if_f rfl (rfl) ?_
  refine zal ?_
  refine zae ?_
  refine zae ?_
  refine zad ?_
  refine zab rfl rfl rfl (zac (.inl rfl) (ev1 rfl)) ?_
  refine zab rfl rfl rfl (zac (.inl rfl) (ev1 rfl)) ?_
  refine zab rfl rfl rfl (op_lss rfl (ev1 rfl) (ev1 rfl)) ?_
  refine zaf ?_
  refine dwp_cond rfl (fun c3 => ?_) (fun c3 => ?_)
  · try simp only [decide_eq_true_eq, decide_eq_false_iff_not, beq_iff_eq, bne_iff_ne, beq_eq_false_iff_ne, bne_eq_false_iff_eq, Bool.not_eq_true', Bool.not_eq_false', Bool.and_eq_true, Bool.or_eq_true, Bool.or_eq_false_iff, ne_eq, Decidable.not_not, Int.not_lt, Int.not_le] at c3
    refine zae ?_
    refine zad ?_
    refine zab rfl rfl rfl (zac (.inr rfl) (ev1 rfl)) ?_
    refine zaf ?_
    refine dwp_ret ?_
    refine kend0 (rs1 rfl (rv_t rfl)) rfl ?_
    simp_all [cmpI]; try omega
  · try simp only [decide_eq_true_eq, decide_eq_false_iff_not, beq_iff_eq, bne_iff_ne, beq_eq_false_iff_ne, bne_eq_false_iff_eq, Bool.not_eq_true', Bool.not_eq_false', Bool.and_eq_true, Bool.or_eq_true, Bool.or_eq_false_iff, ne_eq, Decidable.not_not, Int.not_lt, Int.not_le] at c3
    refine zal ?_
    refine zae ?_
    refine zae ?_
    refine zad ?_
    refine zab rfl rfl rfl (zac (.inl rfl) (ev1 rfl)) ?_
    refine zab rfl rfl rfl (zac (.inl rfl) (ev1 rfl)) ?_
    refine zab rfl rfl rfl (op_gtr rfl (ev1 rfl) (ev1 rfl)) ?_
    refine zaf ?_
    refine dwp_cond rfl (fun c4 => ?_) (fun c4 => ?_)
    · try simp only [decide_eq_true_eq, decide_eq_false_iff_not, beq_iff_eq, bne_iff_ne, beq_eq_false_iff_ne, bne_eq_false_iff_eq, Bool.not_eq_true', Bool.not_eq_false', Bool.and_eq_true, Bool.or_eq_true, Bool.or_eq_false_iff, ne_eq, Decidable.not_not, Int.not_lt, Int.not_le] at c4
      refine zae ?_
      refine zad ?_
      refine zab rfl rfl rfl (zac (.inr rfl) (ev1 rfl)) ?_
      refine zaf ?_
      refine dwp_ret ?_
      refine kend0 (rs1 rfl (rv_t rfl)) rfl ?_
      simp_all [cmpI]; try omega
    · try simp only [decide_eq_true_eq, decide_eq_false_iff_not, beq_iff_eq, bne_iff_ne, beq_eq_false_iff_ne, bne_eq_false_iff_eq, Bool.not_eq_true', Bool.not_eq_false', Bool.and_eq_true, Bool.or_eq_true, Bool.or_eq_false_iff, ne_eq, Decidable.not_not, Int.not_lt, Int.not_le] at c4
      refine zal ?_
      refine zae ?_
      refine zad ?_
      refine zab rfl rfl rfl (zac (.inr rfl) (ev1 rfl)) ?_
      refine zaf ?_
      refine dwp_ret ?_
      refine kend0 (rs1 rfl (rv_t rfl)) rfl ?_
      simp_all [cmpI]; try omega
set_option maxRecDepth 4000 in
set_option maxHeartbeats 1000000 in
theorem or_d (l : List Int) : DFun Try.prog 79 [.slf 1 (l).length ((l).flatMap inI)] [] (.val (.int .i64 (orL l))) [] := by
  refine zao (N := 18) 0 (by kernel_rfl) Try.func79 rfl rfl rfl (by simp only [fr0, Nat.zero_add, Nat.reduceAdd]; exact rfl) rfl fun s0 hs0 => ?_
  refine dwp_len (t := 0) rfl fun hl0 hL0 => ?_
  refine zae ?_
  refine zad ?_
  refine zab rfl rfl rfl (zac (.inr rfl) (ev1 rfl)) ?_
  refine zaf ?_
  refine zae ?_
  refine zad ?_
  refine zab rfl rfl rfl (zac (.inr rfl) (ev1 rfl)) ?_
  refine zaf ?_
  refine zae ?_
  refine zae ?_
  refine zad ?_
  refine zab rfl rfl rfl (zac (.inl rfl) (ev1 rfl)) ?_
  refine zab rfl rfl rfl (op_len rfl sl31 (ev1 rfl)) ?_
  refine zab rfl rfl rfl (zac (.inl rfl) (ev1 rfl)) ?_
  refine zaf ?_
  refine zam ?_
  refine dwp_loopS ⟨hs0, rfl⟩ (α := Nat) (fun k => [(8, .val (.int .i64 (k : Int)))]) [(3, _), (6, _), (7, _)] (fun k => []) [] (fun k => k ≤ l.length ∧ orL l = orL (l.drop k)) (fun k => l.length - k) 0 [] (by simp) rfl ⟨rfl, rfl, rfl, trivial⟩ ⟨rfl, trivial⟩ trivial ?_
  intro k hx
  simp only [upd, za, zaa, List.cons_append, List.nil_append]
  obtain ⟨hk, he⟩ := hx
  refine zae ?_
  refine zad ?_
  refine zab rfl rfl rfl (op_lss rfl (ev1 rfl) (ev1 rfl)) ?_
  refine zaf ?_
  refine zae ?_
  refine dwp_cond rfl (fun c1 => ?_) (fun c1 => ?_)
  · try simp only [decide_eq_true_eq, decide_eq_false_iff_not, beq_iff_eq, bne_iff_ne, beq_eq_false_iff_ne, bne_eq_false_iff_eq, Bool.not_eq_true', Bool.not_eq_false', Bool.and_eq_true, Bool.or_eq_true, Bool.or_eq_false_iff, ne_eq, Decidable.not_not, Int.not_lt, Int.not_le] at c1
    refine zal ?_
    refine zae ?_
    refine zam ?_
    refine zae ?_
    refine zad ?_
    refine zab rfl rfl rfl (op_ixsr rfl sl31 (ev1 rfl) (ev1 rfl) (fun _ => rfl) (by decide) rfl (by omega)) ?_
    refine zab rfl rfl rfl (op_ldod rfl tb3 (ev1 rfl) rfl) ?_
    refine zab rfl rfl rfl (zac (.inr rfl) (ev1 rfl)) ?_
    refine zaf ?_
    refine zae ?_
    refine zad ?_
    refine zab rfl rfl rfl (zac (.inl rfl) (ev1 rfl)) ?_
    refine zab rfl rfl rfl (zac (.inl rfl) (ev1 rfl)) ?_
    refine zab rfl rfl rfl (op_neq rfl (ev1 rfl) (ev1 rfl)) ?_
    refine zaf ?_
    refine dwp_cond rfl (fun c2 => ?_) (fun c2 => ?_)
    · try simp only [decide_eq_true_eq, decide_eq_false_iff_not, beq_iff_eq, bne_iff_ne, beq_eq_false_iff_ne, bne_eq_false_iff_eq, Bool.not_eq_true', Bool.not_eq_false', Bool.and_eq_true, Bool.or_eq_true, Bool.or_eq_false_iff, ne_eq, Decidable.not_not, Int.not_lt, Int.not_le] at c2
      refine zae ?_
      refine zad ?_
      refine zab rfl rfl rfl (zac (.inl rfl) (ev1 rfl)) ?_
      refine zab rfl rfl rfl (zac (.inr rfl) (ev1 rfl)) ?_
      refine zaf ?_
      refine dwp_ret ?_
      refine kend0 (rs1 rfl (rv_t rfl)) rfl ?_
      rw [he, orL_drop (by omega)]; simp_all
    · try simp only [decide_eq_true_eq, decide_eq_false_iff_not, beq_iff_eq, bne_iff_ne, beq_eq_false_iff_ne, bne_eq_false_iff_eq, Bool.not_eq_true', Bool.not_eq_false', Bool.and_eq_true, Bool.or_eq_true, Bool.or_eq_false_iff, ne_eq, Decidable.not_not, Int.not_lt, Int.not_le] at c2
      refine zal ?_
      refine zad ?_
      refine zab rfl rfl rfl (op_add' rfl (ev1 rfl) (ev1 rfl) (fun _ => IntWalk.i64_in _ (by omega))) ?_
      refine zab rfl rfl rfl (zac (.inl rfl) (ev1 rfl)) ?_
      refine zaf ?_
      refine ⟨k + 1, [], ⟨by omega, by rw [he, orL_drop (by omega)]; simp_all⟩, by simp only []; omega, rfl, ⟨rfl, rfl, rfl, rfl, trivial⟩, trivial⟩
  · try simp only [decide_eq_true_eq, decide_eq_false_iff_not, beq_iff_eq, bne_iff_ne, beq_eq_false_iff_ne, bne_eq_false_iff_eq, Bool.not_eq_true', Bool.not_eq_false', Bool.and_eq_true, Bool.or_eq_true, Bool.or_eq_false_iff, ne_eq, Decidable.not_not, Int.not_lt, Int.not_le] at c1
    refine dwp_exit ?_
    refine zae ?_
    refine zad ?_
    refine zab rfl rfl rfl (zac (.inl rfl) (ev1 rfl)) ?_
    refine zab rfl rfl rfl (zac (.inr rfl) (ev1 rfl)) ?_
    refine zaf ?_
    refine dwp_ret ?_
    refine kend0 (rs1 rfl (rv_t rfl)) rfl ?_
    rw [he, List.drop_of_length_le (by omega)]; rfl
set_option maxRecDepth 4000 in
set_option maxHeartbeats 1000000 in
theorem isNumber_d (n : Int) : DFun Try.prog 59 [.val (.int .u64 n)] [] (.val (.bool (isNum n))) [] := by
  refine zao (N := 9) 0 (by kernel_rfl) Try.func59 rfl rfl rfl (by simp only [fr0, Nat.zero_add, Nat.reduceAdd]; exact rfl) rfl fun s0 hs0 => ?_
  refine zae ?_
  refine zad ?_
  refine zab rfl rfl rfl (zac (.inr rfl) (ev1 rfl)) ?_
  refine zaf ?_
  refine zae ?_
  refine zad ?_
  refine zab rfl rfl rfl (zac (.inl rfl) (ev1 rfl)) ?_
  refine zab rfl rfl rfl (op_geq rfl (ev1 rfl) (ev1 rfl)) ?_
  refine zab rfl rfl rfl (zac (.inl rfl) (ev1 rfl)) ?_
  refine zaj (gd_t rfl rfl rfl) rfl rfl rfl (zac (.inl rfl) (ev1 rfl)) ?_
  refine zaj (gd_t rfl rfl rfl) rfl rfl rfl (op_leq rfl (ev2 rfl) (ev1 rfl)) ?_
  refine zab rfl rfl rfl (op_and rfl (ev1 rfl) (ev3 rfl id)) ?_
  refine zab rfl rfl rfl (zac (.inr rfl) (ev1 rfl)) ?_
  refine zaf ?_
  refine dwp_ret ?_
  refine kend0 (rs1 rfl (rv_t rfl)) rfl ?_
  rfl
set_option maxRecDepth 4000 in
set_option maxHeartbeats 1000000 in
theorem idSite_d (n : Int) : DFun Try.prog 60 [.val (.int .i64 n)] [] (.val (.bool (isSt n))) [] := by
  refine zao (N := 9) 0 (by kernel_rfl) Try.func60 rfl rfl rfl (by simp only [fr0, Nat.zero_add, Nat.reduceAdd]; exact rfl) rfl fun s0 hs0 => ?_
  refine zae ?_
  refine zad ?_
  refine zab rfl rfl rfl (zac (.inr rfl) (ev1 rfl)) ?_
  refine zaf ?_
  refine zae ?_
  refine zad ?_
  refine zab rfl rfl rfl (zac (.inl rfl) (ev1 rfl)) ?_
  refine zab rfl rfl rfl (op_geq rfl (ev1 rfl) (ev1 rfl)) ?_
  refine zab rfl rfl rfl (zac (.inl rfl) (ev1 rfl)) ?_
  refine zaj (gd_t rfl rfl rfl) rfl rfl rfl (zac (.inl rfl) (ev1 rfl)) ?_
  refine zaj (gd_t rfl rfl rfl) rfl rfl rfl (op_leq rfl (ev2 rfl) (ev1 rfl)) ?_
  refine zab rfl rfl rfl (op_and rfl (ev1 rfl) (ev3 rfl id)) ?_
  refine zab rfl rfl rfl (zac (.inr rfl) (ev1 rfl)) ?_
  refine zaf ?_
  refine dwp_ret ?_
  refine kend0 (rs1 rfl (rv_t rfl)) rfl ?_
  rfl
set_option maxRecDepth 4000 in
set_option maxHeartbeats 1000000 in
theorem idCheck_d (i : I3) : DFun Try.prog 31 [.val (.agg (idc i).toArray)] [] (.val (.int .i64 (errOr (mayR i) 210))) [] := by
  refine zao (N := 19) 0 (by kernel_rfl) Try.func31 rfl rfl rfl (by simp only [fr0, Nat.zero_add, Nat.reduceAdd]; exact rfl) rfl fun s0 hs0 => ?_
  refine zae ?_
  refine zak 1 (by simp only [holes, List.cons_append, List.nil_append]; exact rfl) ?_
  refine zad ?_
  refine zan rfl rfl rfl (op_boxa 0 rfl (ev1 rfl) rfl) (by simp only [upd, za, zaa]; exact rfl) ?_
  refine zab rfl rfl rfl (zac (.inr rfl) (ev1 rfl)) ?_
  refine zaf ?_
  refine zae ?_
  refine zae ?_
  refine zad ?_
  refine zab rfl rfl rfl (op_fa rfl fo35_0 (ev1 rfl)) ?_
  refine zab rfl rfl rfl (op_ldo rfl tb33 (ev1 rfl) rfl rfl) ?_
  refine zab rfl rfl rfl (zah [] [] [] rfl (ev1 rfl) (ec (ev1 rfl) en) rfl rfl (isNumber_d _) rfl rfl rfl rfl rfl rfl) ?_
  refine zab rfl rfl rfl (op_not rfl (ev1 rfl)) ?_
  refine zab rfl rfl rfl (zac (.inl rfl) (ev1 rfl)) ?_
  refine zaj (gd_f rfl rfl rfl) rfl rfl rfl (op_fa rfl fo35_1 (ev1 rfl)) ?_
  refine zaj (gd_f rfl rfl rfl) rfl rfl rfl (op_ldo rfl tb3 (ev2 rfl) rfl rfl) ?_
  refine zaj (gd_f rfl rfl rfl) rfl rfl rfl (zah [] [] [] rfl (ev1 rfl) (ec (ev2 rfl) en) rfl rfl (idSite_d _) rfl rfl rfl rfl rfl rfl) ?_
  refine zaj (gd_f rfl rfl rfl) rfl rfl rfl (op_not rfl (ev2 rfl)) ?_
  refine zab rfl rfl rfl (op_or rfl (ev1 rfl) (ev3 rfl id)) ?_
  refine zab rfl rfl rfl (zac (.inl rfl) (ev1 rfl)) ?_
  refine zaj (gd_f rfl rfl rfl) rfl rfl rfl (op_fa rfl fo35_2 (ev1 rfl)) ?_
  refine zaj (gd_f rfl rfl rfl) rfl rfl rfl (op_ldo rfl tb33 (ev2 rfl) rfl rfl) ?_
  refine zaj (gd_f rfl rfl rfl) rfl rfl rfl (zah [] [] [] rfl (ev1 rfl) (ec (ev2 rfl) en) rfl rfl (isNumber_d _) rfl rfl rfl rfl rfl rfl) ?_
  refine zaj (gd_f rfl rfl rfl) rfl rfl rfl (op_not rfl (ev2 rfl)) ?_
  refine zab rfl rfl rfl (op_or rfl (ev1 rfl) (ev3 rfl id)) ?_
  refine zaf ?_
  refine dwp_cond rfl (fun c1 => ?_) (fun c1 => ?_)
  · try simp only [decide_eq_true_eq, decide_eq_false_iff_not, beq_iff_eq, bne_iff_ne, beq_eq_false_iff_ne, bne_eq_false_iff_eq, Bool.not_eq_true', Bool.not_eq_false', Bool.and_eq_true, Bool.or_eq_true, Bool.or_eq_false_iff, ne_eq, Decidable.not_not, Int.not_lt, Int.not_le] at c1
    refine zae ?_
    refine zad ?_
    refine zab rfl rfl rfl (zac (.inr rfl) (ev1 rfl)) ?_
    refine zaf ?_
    refine dwp_ret ?_
    refine kend0 (rs1 rfl (rv_t rfl)) rfl ?_
    cases h1 : isNum i.t <;> cases h2 : isSt i.s <;> cases h3 : isNum i.q <;> simp_all [mayR, errOr]
  · try simp only [decide_eq_true_eq, decide_eq_false_iff_not, beq_iff_eq, bne_iff_ne, beq_eq_false_iff_ne, bne_eq_false_iff_eq, Bool.not_eq_true', Bool.not_eq_false', Bool.and_eq_true, Bool.or_eq_true, Bool.or_eq_false_iff, ne_eq, Decidable.not_not, Int.not_lt, Int.not_le] at c1
    refine zal ?_
    refine zae ?_
    refine zad ?_
    refine zab rfl rfl rfl (zac (.inr rfl) (ev1 rfl)) ?_
    refine zaf ?_
    refine dwp_ret ?_
    refine kend0 (rs1 rfl (rv_t rfl)) rfl ?_
    cases h1 : isNum i.t <;> cases h2 : isSt i.s <;> cases h3 : isNum i.q <;> simp_all [mayR, errOr]
set_option maxRecDepth 4000 in
set_option maxHeartbeats 1000000 in
theorem compare_d (a b : I3) : DFun Try.prog 61 [.val (.agg (idc a).toArray), .val (.agg (idc b).toArray)] [] (.val (.int .i64 (cmpR a b))) [] := by
  refine zao (N := 25) 0 (by kernel_rfl) Try.func61 rfl rfl rfl (by simp only [fr0, Nat.zero_add, Nat.reduceAdd]; exact rfl) rfl fun s0 hs0 => ?_
  refine zae ?_
  refine zak 2 (by simp only [holes, List.cons_append, List.nil_append]; exact rfl) ?_
  refine zad ?_
  refine zan rfl rfl rfl (op_boxa 0 rfl (ev1 rfl) rfl) (by simp only [upd, za, zaa]; exact rfl) ?_
  refine zan rfl rfl rfl (op_boxa 1 rfl (ev1 rfl) rfl) (by simp only [upd, za, zaa]; exact rfl) ?_
  refine zab rfl rfl rfl (zac (.inr rfl) (ev1 rfl)) ?_
  refine zaf ?_
  refine zae ?_
  refine zae ?_
  refine zad ?_
  refine zab rfl rfl rfl (op_ldw rfl tb35 (ev1 rfl) rfl rfl) ?_
  refine zab rfl rfl rfl (op_ldw rfl tb35 (ev1 rfl) rfl rfl) ?_
  refine zab rfl rfl rfl (op_eqr eq35 rfl gd35 tb35 (ev1 rfl) (ev1 rfl)) ?_
  refine zaf ?_
  refine dwp_cond rfl (fun c1 => ?_) (fun c1 => ?_)
  · try simp only [decide_eq_true_eq, decide_eq_false_iff_not, beq_iff_eq, bne_iff_ne, beq_eq_false_iff_ne, bne_eq_false_iff_eq, Bool.not_eq_true', Bool.not_eq_false', Bool.and_eq_true, Bool.or_eq_true, Bool.or_eq_false_iff, ne_eq, Decidable.not_not, Int.not_lt, Int.not_le] at c1
    refine zae ?_
    refine zad ?_
    refine zab rfl rfl rfl (zac (.inr rfl) (ev1 rfl)) ?_
    refine zaf ?_
    refine dwp_ret ?_
    refine kend0 (rs1 rfl (rv_t rfl)) rfl ?_
    unfold cmpR
    rw [if_pos (eqI_iff.2 c1)]
  · try simp only [decide_eq_true_eq, decide_eq_false_iff_not, beq_iff_eq, bne_iff_ne, beq_eq_false_iff_ne, bne_eq_false_iff_eq, Bool.not_eq_true', Bool.not_eq_false', Bool.and_eq_true, Bool.or_eq_true, Bool.or_eq_false_iff, ne_eq, Decidable.not_not, Int.not_lt, Int.not_le] at c1
    refine zal ?_
    refine zae ?_
    refine dwp_draw [([], []), ([0], []), ([], []), ([1], []), ([], []), ([], []), ([0], []), ([], []), ([1], []), ([], []), ([], []), ([0], []), ([], []), ([1], []), ([], []), ([], []), ([], []), ([], [])] mixed (by kernel_rfl) ?_
    refine zag rfl rfl (op_fa rfl fo35_0 (ev1 rfl)) ?_
    refine zag rfl rfl (op_ldo rfl tb33 (ev1 rfl) rfl rfl) ?_
    refine zag rfl rfl (op_fa rfl fo35_0 (ev1 rfl)) ?_
    refine zag rfl rfl (op_ldo rfl tb33 (ev1 rfl) rfl rfl) ?_
    refine zag rfl rfl (zah [] [] [] rfl (ev1 rfl) (ec (ev1 rfl) (ec (ev1 rfl) en)) rfl rfl (cmp_u64 _ _) rfl rfl rfl rfl rfl rfl) ?_
    refine zag rfl rfl (op_fa rfl fo35_1 (ev1 rfl)) ?_
    refine zag rfl rfl (op_ldo rfl tb3 (ev1 rfl) rfl rfl) ?_
    refine zag rfl rfl (op_fa rfl fo35_1 (ev1 rfl)) ?_
    refine zag rfl rfl (op_ldo rfl tb3 (ev1 rfl) rfl rfl) ?_
    refine zag rfl rfl (zah [] [] [] rfl (ev1 rfl) (ec (ev1 rfl) (ec (ev1 rfl) en)) rfl rfl (cmp_i64 _ _) rfl rfl rfl rfl rfl rfl) ?_
    refine zag rfl rfl (op_fa rfl fo35_2 (ev1 rfl)) ?_
    refine zag rfl rfl (op_ldo rfl tb33 (ev1 rfl) rfl rfl) ?_
    refine zag rfl rfl (op_fa rfl fo35_2 (ev1 rfl)) ?_
    refine zag rfl rfl (op_ldo rfl tb33 (ev1 rfl) rfl rfl) ?_
    refine zag rfl rfl (zah [] [] [] rfl (ev1 rfl) (ec (ev1 rfl) (ec (ev1 rfl) en)) rfl rfl (cmp_u64 _ _) rfl rfl rfl rfl rfl rfl) ?_
    refine zag rfl rfl (op_bs (ps := [(0, .tmp 12), (1, .tmp 17), (2, .tmp 22)]) rfl sl31 zr3 rfl (vc (ev1 rfl) (vc (ev1 rfl) (vc (ev1 rfl) vn))) rfl (by decide) (by decide)) ?_
    refine zag rfl rfl (zah [] [] [] rfl (ev1 rfl) (ec (ev1 rfl) en) rfl rfl (or_d [_, _, _]) rfl rfl rfl rfl rfl rfl) ?_
    refine zag rfl rfl (zac (.inr rfl) (ev1 rfl)) ?_
    refine lex_nil ?_
    refine dwp_ret ?_
    refine kend0 (rs1 rfl (rv_t rfl)) rfl ?_
    unfold cmpR
    rw [if_neg (fun h => c1 (eqI_iff.1 h))]
set_option maxRecDepth 4000 in
set_option maxHeartbeats 1000000 in
theorem idLess_d (a b : I3) : DFun Try.prog 32 [.val (.agg (idc a).toArray), .val (.agg (idc b).toArray)] [] (.val (.bool (lessR a b))) [] := by
  refine zao (N := 9) 0 (by kernel_rfl) Try.func32 rfl rfl rfl (by simp only [fr0, Nat.zero_add, Nat.reduceAdd]; exact rfl) rfl fun s0 hs0 => ?_
  refine zae ?_
  refine zak 2 (by simp only [holes, List.cons_append, List.nil_append]; exact rfl) ?_
  refine zad ?_
  refine zan rfl rfl rfl (op_boxa 0 rfl (ev1 rfl) rfl) (by simp only [upd, za, zaa]; exact rfl) ?_
  refine zan rfl rfl rfl (op_boxa 1 rfl (ev1 rfl) rfl) (by simp only [upd, za, zaa]; exact rfl) ?_
  refine zab rfl rfl rfl (zac (.inr rfl) (ev1 rfl)) ?_
  refine zaf ?_
  refine zae ?_
  refine zad ?_
  refine zab rfl rfl rfl (op_ldw rfl tb35 (ev1 rfl) rfl rfl) ?_
  refine zab rfl rfl rfl (op_ldw rfl tb35 (ev1 rfl) rfl rfl) ?_
  refine zab rfl rfl rfl (zah [] [] [] rfl (ev1 rfl) (ec (ev1 rfl) (ec (ev1 rfl) en)) rfl rfl (compare_d _ _) rfl rfl rfl rfl rfl rfl) ?_
  refine zab rfl rfl rfl (op_lss rfl (ev1 rfl) (ev1 rfl)) ?_
  refine zab rfl rfl rfl (zac (.inr rfl) (ev1 rfl)) ?_
  refine zaf ?_
  refine dwp_ret ?_
  refine kend0 (rs1 rfl (rv_t rfl)) rfl ?_
  rw [← lessC_R]
  rfl
set_option maxRecDepth 4000 in
set_option maxHeartbeats 1000000 in
theorem equalI (l r : List I3) : DFun Try.prog 28 [.slf 3 l.length (l.flatMap idc), .slf 3 r.length (r.flatMap idc)] [] (.val (.bool (decide (l = r)))) [] := by
  refine zao (N := 26) 0 (by kernel_rfl) Try.func28 rfl rfl rfl (by simp only [fr0, Nat.zero_add, Nat.reduceAdd]; exact rfl) rfl fun s0 hs0 => ?_
  refine dwp_len (t := 0) rfl fun hl0 hL0 => ?_
  refine dwp_len (t := 1) rfl fun hl1 hL1 => ?_
  refine zae ?_
  refine zad ?_
  refine zab rfl rfl rfl (zac (.inr rfl) (ev1 rfl)) ?_
  refine zaf ?_
  refine zae ?_
  refine zae ?_
  refine zad ?_
  refine zab rfl rfl rfl (zac (.inl rfl) (ev1 rfl)) ?_
  refine zab rfl rfl rfl (op_len rfl sl22 (ev1 rfl)) ?_
  refine zab rfl rfl rfl (zac (.inl rfl) (ev1 rfl)) ?_
  refine zab rfl rfl rfl (op_len rfl sl22 (ev1 rfl)) ?_
  refine zab rfl rfl rfl (op_neq rfl (ev1 rfl) (ev1 rfl)) ?_
  refine zaf ?_
  refine dwp_cond rfl (fun c1 => ?_) (fun c1 => ?_)
  · try simp only [decide_eq_true_eq, decide_eq_false_iff_not, beq_iff_eq, bne_iff_ne, beq_eq_false_iff_ne, bne_eq_false_iff_eq, Bool.not_eq_true', Bool.not_eq_false', Bool.and_eq_true, Bool.or_eq_true, Bool.or_eq_false_iff, ne_eq, Decidable.not_not, Int.not_lt, Int.not_le] at c1
    refine zae ?_
    refine zad ?_
    refine zab rfl rfl rfl (zac (.inr rfl) (ev1 rfl)) ?_
    refine zaf ?_
    refine dwp_ret ?_
    refine kend0 (rs1 rfl (rv_t rfl)) rfl ?_
    have hne : l ≠ r := fun e => by subst e; exact c1 rfl
    rw [decide_eq_false hne]
  · try simp only [decide_eq_true_eq, decide_eq_false_iff_not, beq_iff_eq, bne_iff_ne, beq_eq_false_iff_ne, bne_eq_false_iff_eq, Bool.not_eq_true', Bool.not_eq_false', Bool.and_eq_true, Bool.or_eq_true, Bool.or_eq_false_iff, ne_eq, Decidable.not_not, Int.not_lt, Int.not_le] at c1
    have hlen : l.length = r.length := by omega
    refine zal ?_
    refine zae ?_
    refine zae ?_
    refine zad ?_
    refine zab rfl rfl rfl (zac (.inl rfl) (ev1 rfl)) ?_
    refine zab rfl rfl rfl (op_len rfl sl22 (ev1 rfl)) ?_
    refine zab rfl rfl rfl (zac (.inl rfl) (ev1 rfl)) ?_
    refine zaf ?_
    refine zam ?_
    refine dwp_loopS ⟨hs0, rfl⟩ (α := Nat) (fun k => [(13, .val (.int .i64 (k : Int)))]) [(0, _), (1, _), (12, _)] (fun k => []) [] (fun k => k ≤ l.length ∧ l.take k = r.take k) (fun k => l.length - k) 0 [] (by simp) rfl ⟨rfl, rfl, rfl, trivial⟩ ⟨rfl, trivial⟩ trivial ?_
    intro k hx
    simp only [upd, za, zaa, List.cons_append, List.nil_append]
    obtain ⟨hk, he⟩ := hx
    refine zae ?_
    refine zad ?_
    refine zab rfl rfl rfl (op_lss rfl (ev1 rfl) (ev1 rfl)) ?_
    refine zaf ?_
    refine zae ?_
    refine dwp_cond rfl (fun c2 => ?_) (fun c2 => ?_)
    · try simp only [decide_eq_true_eq, decide_eq_false_iff_not, beq_iff_eq, bne_iff_ne, beq_eq_false_iff_ne, bne_eq_false_iff_eq, Bool.not_eq_true', Bool.not_eq_false', Bool.and_eq_true, Bool.or_eq_true, Bool.or_eq_false_iff, ne_eq, Decidable.not_not, Int.not_lt, Int.not_le] at c2
      refine zal ?_
      refine zae ?_
      refine zam ?_
      refine zae ?_
      refine zad ?_
      refine zab rfl rfl rfl (zac (.inl rfl) (ev1 rfl)) ?_
      refine zab rfl rfl rfl (zac (.inr rfl) (ev1 rfl)) ?_
      refine zaf ?_
      refine zae ?_
      refine dwp_draw [([], []), ([], []), ([], []), ([], []), ([], []), ([], []), ([], []), ([], []), ([], [])] mixed (by kernel_rfl) ?_
      refine zag rfl rfl (zac (.inl rfl) (ev1 rfl)) ?_
      refine zag rfl rfl (zac (.inl rfl) (ev1 rfl)) ?_
      refine zag rfl rfl (op_ixsr (j := k) rfl sl22 (ev1 rfl) (ev1 rfl) (fun _ => rfl) (by decide) (by omega) (by omega)) ?_
      refine zag rfl rfl (op_ldwd rfl tb35 (ev1 rfl) rfl) ?_
      refine zag rfl rfl (zac (.inl rfl) (ev1 rfl)) ?_
      refine zag rfl rfl (zac (.inl rfl) (ev1 rfl)) ?_
      refine zag rfl rfl (op_ixsr (j := k) rfl sl22 (ev1 rfl) (ev1 rfl) (fun _ => rfl) (by decide) (by omega) (by omega)) ?_
      refine zag rfl rfl (op_ldwd rfl tb35 (ev1 rfl) rfl) ?_
      refine zag rfl rfl (op_ner eq35 rfl gd35 tb35 (ev1 rfl) (ev1 rfl)) ?_
      refine lex_nil ?_
      refine dwp_cond rfl (fun c2 => ?_) (fun c2 => ?_)
      · have c3 : l[k] ≠ r[k] := by simpa using c2
        refine zae ?_
        refine zad ?_
        refine zab rfl rfl rfl (zac (.inr rfl) (ev1 rfl)) ?_
        refine zaf ?_
        refine dwp_ret ?_
        refine kend0 (rs1 rfl (rv_t rfl)) rfl ?_
        have hne : l ≠ r := fun e => by subst e; exact c3 rfl
        rw [decide_eq_false hne]
      · have c3 : l[k] = r[k] := by simpa using c2
        refine zal ?_
        refine zad ?_
        refine zab rfl rfl rfl (op_add' rfl (ev1 rfl) (ev1 rfl) (fun _ => IntWalk.i64_in _ (by omega))) ?_
        refine zab rfl rfl rfl (zac (.inl rfl) (ev1 rfl)) ?_
        refine zaf ?_
        refine ⟨k + 1, [], ⟨by omega, by rw [List.take_succ_eq_append_getElem (by omega), List.take_succ_eq_append_getElem (by omega), he, c3]⟩, by simp only []; omega, rfl, ⟨rfl, rfl, rfl, rfl, trivial⟩, trivial⟩
    · try simp only [decide_eq_true_eq, decide_eq_false_iff_not, beq_iff_eq, bne_iff_ne, beq_eq_false_iff_ne, bne_eq_false_iff_eq, Bool.not_eq_true', Bool.not_eq_false', Bool.and_eq_true, Bool.or_eq_true, Bool.or_eq_false_iff, ne_eq, Decidable.not_not, Int.not_lt, Int.not_le] at c2
      refine dwp_exit ?_
      refine zae ?_
      refine zad ?_
      refine zab rfl rfl rfl (zac (.inr rfl) (ev1 rfl)) ?_
      refine zaf ?_
      refine dwp_ret ?_
      refine kend0 (rs1 rfl (rv_t rfl)) rfl ?_
      have e : l = r := by
        have h := he
        rw [List.take_of_length_le (by omega), List.take_of_length_le (by omega)] at h
        exact h
      rw [decide_eq_true e]
set_option maxRecDepth 4000 in
set_option maxHeartbeats 1000000 in
theorem cloneI (l : List I3) (h : l.length ≤ 5000) : DFun Try.prog 39 [.slf 3 l.length (l.flatMap idc)] [] (.arr 0) [.arr 35 3 l.length (l.flatMap idc)] := by
  refine zao (N := 8) 0 (by kernel_rfl) Try.func39 rfl rfl rfl (by simp only [fr0, Nat.zero_add, Nat.reduceAdd]; exact rfl) rfl fun s0 hs0 => ?_
  refine dwp_len (t := 0) rfl fun hl0 hL0 => ?_
  refine zae ?_
  refine zad ?_
  refine zab rfl rfl rfl (zac (.inr rfl) (ev1 rfl)) ?_
  refine zaf ?_
  refine zae ?_
  refine zae ?_
  refine zad ?_
  refine zab rfl rfl rfl (zac (.inl rfl) (ev1 rfl)) ?_
  refine walk_nil? rfl rfl rfl rfl sl22 (ev1 rfl) fun nb4 hnb4 => ?_
  refine zaf ?_
  refine dwp_cond rfl (fun c1 => ?_) (fun c1 => ?_)
  · try simp only [decide_eq_true_eq, decide_eq_false_iff_not, beq_iff_eq, bne_iff_ne, beq_eq_false_iff_ne, bne_eq_false_iff_eq, Bool.not_eq_true', Bool.not_eq_false', Bool.and_eq_true, Bool.or_eq_true, Bool.or_eq_false_iff, ne_eq, Decidable.not_not, Int.not_lt, Int.not_le] at c1
    refine zae ?_
    refine zad ?_
    refine zab rfl rfl rfl (zac (.inr rfl) (ev1 rfl)) ?_
    refine zaf ?_
    refine dwp_adopt 2 35 3 rfl rfl rfl ?_
    refine dwp_ret ?_
    refine kend [0] (rs1 rfl (rv_t rfl)) rfl rfl ?_ ⟨?_, trivial⟩
    rfl
    exact (by obtain ⟨h1, h2⟩ := hnb4 c1; simp_all [MFits, vwB])
  · try simp only [decide_eq_true_eq, decide_eq_false_iff_not, beq_iff_eq, bne_iff_ne, beq_eq_false_iff_ne, bne_eq_false_iff_eq, Bool.not_eq_true', Bool.not_eq_false', Bool.and_eq_true, Bool.or_eq_true, Bool.or_eq_false_iff, ne_eq, Decidable.not_not, Int.not_lt, Int.not_le] at c1
    refine zal ?_
    refine zae ?_
    refine zak 2 (by simp only [holes, List.cons_append, List.nil_append]; exact rfl) ?_
    refine zad ?_
    refine zan rfl rfl rfl (op_bsa (ps := []) 0 rfl sl22 zr35 rfl vn rfl (by decide) (by decide) rfl) (by simp only [upd, za, zaa]; exact rfl) ?_
    refine zab rfl rfl rfl (zac (.inl rfl) (ev1 rfl)) ?_
    refine zan rfl rfl rfl (op_app (j := 1) rfl sl22 zr35 rfl (ev1 rfl) (ev1 rfl) src_slf rfl rfl (fun _ => flat_oc (fun _ => rfl) l) (fun _ => ⟨by omega, by omega⟩)) (by simp only [upd, za, zaa]; exact rfl) ?_
    refine zab rfl rfl rfl (zac (.inr rfl) (ev1 rfl)) ?_
    refine zaf ?_
    refine dwp_ret ?_
    refine kend [1] (rs1 rfl (rv_t rfl)) rfl rfl ?_ ⟨?_, trivial⟩
    rfl
    simp [vwB]
theorem cloneI_f (l : List I3) (h : l.length ≤ 5000) : DFun Try.prog 39 [.slf 3 l.length (l.flatMap idc)] [] (.slf 3 l.length (l.flatMap idc)) [] := freeze (cloneI l h) rfl
set_option maxRecDepth 4000 in
set_option maxHeartbeats 1000000 in
theorem few_d (l : List I3) (n : Nat) (hn : n ≤ 1000) : DFun Try.prog 9 [.slf 3 l.length (l.flatMap idc), .val (.int .i64 (n : Int))] [] (.slf 3 (l.take n).length ((l.take n).flatMap idc)) [] := by
  refine zao (N := 12) 0 (by kernel_rfl) Try.func9 rfl rfl rfl (by simp only [fr0, Nat.zero_add, Nat.reduceAdd]; exact rfl) rfl fun s0 hs0 => ?_
  refine dwp_len (t := 0) rfl fun hl0 hL0 => ?_
  refine zae ?_
  refine zad ?_
  refine zab rfl rfl rfl (zac (.inr rfl) (ev1 rfl)) ?_
  refine zaf ?_
  refine zae ?_
  refine zad ?_
  refine zab rfl rfl rfl (zac (.inl rfl) (ev1 rfl)) ?_
  refine zab rfl rfl rfl (zac (.inl rfl) (ev1 rfl)) ?_
  refine zab rfl rfl rfl (op_len rfl sl22 (ev1 rfl)) ?_
  refine zab rfl rfl rfl (zac (.inl rfl) (ev1 rfl)) ?_
  refine zab rfl rfl rfl (op_min rfl (ev1 rfl) (ev1 rfl)) ?_
  refine zab rfl rfl rfl (op_sltk (j := min l.length n) rfl sl22 (ev1 rfl) (bd_some (ev1 rfl)) (fun _ => by omega) (fun _ => by omega) (fun _ => rfl)) ?_
  refine zab rfl rfl rfl (zah [] [] [] rfl (ev1 rfl) (ec (ev1 rfl) en) rfl rfl (cloneI_f _ (by rw [List.length_take]; omega)) rfl rfl rfl rfl rfl rfl) ?_
  refine zab rfl rfl rfl (zac (.inr rfl) (ev1 rfl)) ?_
  refine zaf ?_
  refine dwp_ret ?_
  refine kend0 (rs1 rfl (rv_t rfl)) rfl ?_
  rw [tkmin]
def risN (l : List I3) : Nat → Bool
  | 0 => true
  | 1 => true
  | k + 2 => risN l (k + 1) && lessR (l.getD k zI3) (l.getD (k + 1) zI3)
def risL (l : List I3) : Bool := risN l l.length
theorem risN_no {l : List I3} : ∀ (n k : Nat), k + 2 ≤ n → lessR (l.getD k zI3) (l.getD (k + 1) zI3) = false → risN l n = false
  | 0, k, h, _ => absurd h (by omega)
  | 1, k, h, _ => absurd h (by omega)
  | n + 2, k, h, hl => by
    unfold risN
    by_cases e : k = n
    · subst e; rw [hl, Bool.and_false]
    · rw [risN_no (n + 1) k (by omega) hl, Bool.false_and]
theorem gI {l : List I3} {k : Nat} (h : k < l.length) : l.getD k zI3 = l[k] := by rw [List.getD_eq_getElem?_getD, List.getElem?_eq_getElem h]; rfl
set_option maxRecDepth 4000 in
set_option maxHeartbeats 1000000 in
theorem pairs_d (l : List I3) : DFun Try.prog 64 [.slf 3 l.length (l.flatMap idc)] [] (.fn (.func 82) [] [.loc 0 0]) [.mix 22 [.slf 3 l.length (l.flatMap idc)]] := by
  refine zao (N := 4) 0 (by kernel_rfl) Try.func64 rfl rfl rfl (by simp only [fr0, Nat.zero_add, Nat.reduceAdd]; exact rfl) rfl fun s0 hs0 => ?_
  refine dwp_len (t := 0) rfl fun hl0 hL0 => ?_
  refine zae ?_
  refine zak 1 (by simp only [holes, List.cons_append, List.nil_append]; exact rfl) ?_
  refine zad ?_
  refine zan rfl rfl rfl (op_boxm 0 rfl (ev1 rfl) (fun s v h => by cases h <;> rfl) rfl) (by simp only [upd, za, zaa]; exact rfl) ?_
  refine zab rfl rfl rfl (zac (.inr rfl) (ev1 rfl)) ?_
  refine zaf ?_
  refine zae ?_
  refine zad ?_
  refine zab rfl rfl rfl (op_mkf rfl en (ec (ev1 rfl) en)) ?_
  refine zab rfl rfl rfl (zac (.inr rfl) (ev1 rfl)) ?_
  refine zaf ?_
  refine dwp_ret ?_
  refine kend [0] (rs1 rfl (rv_t rfl)) rfl rfl ?_ ⟨rfl, trivial⟩
  rfl
noncomputable def risA : Code := rfA (pth [1, 0, 1, 1, 0, 1, 0] (bodyOf Try.f38))
noncomputable def risB : Code := rfB (pth [1, 0, 1, 1, 0, 1, 0] (bodyOf Try.f38))
set_option maxRecDepth 4000 in
set_option maxHeartbeats 1000000 in
theorem risR_true (a b : I3) (h1 : lessR a b = true) : DRound Try.prog 0 [.val (.agg (idc a).toArray), .val (.agg (idc b).toArray)] [.lp 15 [(3, .loc 1 0)] #[8, 9] risA risB .ready none, .flat 4 [.bool true]] true [.lp 15 [(3, .loc 1 0)] #[8, 9] risA risB .ready none, .flat 4 [.bool true]] := by
  refine dround_go 2 rfl rfl (by simp) rfl rfl fun s0 hs0 => ?_
  refine zae ?_
  refine zak 1 (by simp only [holes, List.cons_append, List.nil_append]; exact rfl) ?_
  refine zad ?_
  refine zan rfl rfl rfl (op_alloc 2 rfl zr35 rfl) (by simp only [upd, za, zaa]; exact rfl) ?_
  refine walk_s rfl rfl (op_stwa rfl tb35 (ev1 rfl) (ev1 rfl) rfl rfl rfl rfl) (by simp only [upd, za, zaa]; exact rfl) ?_
  refine zaf ?_
  refine zak 1 (by simp only [holes, List.cons_append, List.nil_append]; exact rfl) ?_
  refine zad ?_
  refine zan rfl rfl rfl (op_alloc 3 rfl zr35 rfl) (by simp only [upd, za, zaa]; exact rfl) ?_
  refine walk_s rfl rfl (op_stwa rfl tb35 (ev1 rfl) (ev1 rfl) rfl rfl rfl rfl) (by simp only [upd, za, zaa]; exact rfl) ?_
  refine zaf ?_
  refine ⟨rfl, ?_⟩
  simp only [za, zaa]
  refine zam ?_
  refine zae ?_
  refine zad ?_
  refine zab rfl rfl rfl (op_ldw rfl tb35 (ev1 rfl) rfl rfl) ?_
  refine zab rfl rfl rfl (op_ldw rfl tb35 (ev1 rfl) rfl rfl) ?_
  refine zab rfl rfl rfl (zah [] [] [] rfl (ev1 rfl) (ec (ev1 rfl) (ec (ev1 rfl) en)) rfl rfl (idLess_d _ _) rfl rfl rfl rfl rfl rfl) ?_
  refine zab rfl rfl rfl (op_not rfl (ev1 rfl)) ?_
  refine zaf ?_
  refine dwp_if_f rfl (by rw [h1]; rfl) ?_
  refine zal ?_
  refine ⟨by first | rfl | assumption | simp_all, rfl, [0, 1], rfl, ⟨rfl, rfl, trivial⟩⟩
set_option maxRecDepth 4000 in
set_option maxHeartbeats 1000000 in
theorem risR_false (a b : I3) (h1 : lessR a b = false) : DRound Try.prog 0 [.val (.agg (idc a).toArray), .val (.agg (idc b).toArray)] [.lp 15 [(3, .loc 1 0)] #[8, 9] risA risB .ready none, .flat 4 [.bool true]] false [.lp 15 [(3, .loc 1 0)] #[8, 9] risA risB .done (some (.exit 0)), .flat 4 [.bool false]] := by
  refine dround_go 2 rfl rfl (by simp) rfl rfl fun s0 hs0 => ?_
  refine zae ?_
  refine zak 1 (by simp only [holes, List.cons_append, List.nil_append]; exact rfl) ?_
  refine zad ?_
  refine zan rfl rfl rfl (op_alloc 2 rfl zr35 rfl) (by simp only [upd, za, zaa]; exact rfl) ?_
  refine walk_s rfl rfl (op_stwa rfl tb35 (ev1 rfl) (ev1 rfl) rfl rfl rfl rfl) (by simp only [upd, za, zaa]; exact rfl) ?_
  refine zaf ?_
  refine zak 1 (by simp only [holes, List.cons_append, List.nil_append]; exact rfl) ?_
  refine zad ?_
  refine zan rfl rfl rfl (op_alloc 3 rfl zr35 rfl) (by simp only [upd, za, zaa]; exact rfl) ?_
  refine walk_s rfl rfl (op_stwa rfl tb35 (ev1 rfl) (ev1 rfl) rfl rfl rfl rfl) (by simp only [upd, za, zaa]; exact rfl) ?_
  refine zaf ?_
  refine ⟨rfl, ?_⟩
  simp only [za, zaa]
  refine zam ?_
  refine zae ?_
  refine zad ?_
  refine zab rfl rfl rfl (op_ldw rfl tb35 (ev1 rfl) rfl rfl) ?_
  refine zab rfl rfl rfl (op_ldw rfl tb35 (ev1 rfl) rfl rfl) ?_
  refine zab rfl rfl rfl (zah [] [] [] rfl (ev1 rfl) (ec (ev1 rfl) (ec (ev1 rfl) en)) rfl rfl (idLess_d _ _) rfl rfl rfl rfl rfl rfl) ?_
  refine zab rfl rfl rfl (op_not rfl (ev1 rfl)) ?_
  refine zaf ?_
  refine dwp_if_t rfl (by rw [h1]; rfl) ?_
  refine zae ?_
  refine zad ?_
  refine walk_s rfl rfl (op_stwb rfl tb4 (ev1 rfl) (ev1 rfl) rfl) (by simp only [upd, za, zaa]; exact rfl) ?_
  refine zaf ?_
  refine dwp_exit ?_
  refine ⟨by first | rfl | assumption | simp_all, rfl, [0, 1], rfl, ⟨rfl, rfl, trivial⟩⟩
theorem risR (a b : I3) : DRound Try.prog 0 [.val (.agg (idc a).toArray), .val (.agg (idc b).toArray)] [.lp 15 [(3, .loc 1 0)] #[8, 9] risA risB .ready none, .flat 4 [.bool true]] (lessR a b) [.lp 15 [(3, .loc 1 0)] #[8, 9] risA risB (rst (lessR a b)) (rpe (.exit 0) (lessR a b)), .flat 4 [.bool (lessR a b)]] := by
  cases h1 : lessR a b
  · exact risR_false a b h1
  · exact risR_true a b h1
set_option maxRecDepth 4000 in
set_option maxHeartbeats 1000000 in
theorem pairs_ris (l : List I3) (hn : l.length ≤ 1000000) : DFun Try.prog 82 [.yld 0, .loc 2 0] [.lp 15 [(3, .loc 1 0)] #[8, 9] risA risB .ready none, .flat 4 [.bool true], .mix 22 [.slf 3 l.length (l.flatMap idc)]] (.tup []) [.lp 15 [(3, .loc 1 0)] #[8, 9] risA risB (rst (risL l)) (rpe (.exit 0) (risL l)), .flat 4 [.bool (risL l)], .mix 22 [.slf 3 l.length (l.flatMap idc)]] := by
  refine zao (N := 22) 3 (by kernel_rfl) Try.func82 rfl rfl rfl (by simp only [fr0, Nat.zero_add, Nat.reduceAdd]; exact rfl) rfl fun s0 hs0 => ?_
  refine zae ?_
  refine zad ?_
  refine zab rfl rfl rfl (zac (.inr rfl) (ev1 rfl)) ?_
  refine zaf ?_
  refine zam ?_
  refine dwp_loopS ⟨hs0, rfl⟩ (α := Nat) (fun k => [(3, .val (.int .i64 ((k + 1 : Nat) : Int)))]) [(0, _), (1, _)] (fun k => []) [_, _, _] (fun k => (k + 1 ≤ l.length ∨ k = 0) ∧ risN l (k + 1) = true) (fun k => l.length - k) 0 [0, 1, 2] (⟨.inr rfl, rfl⟩) rfl ⟨rfl, rfl, trivial⟩ ⟨rfl, trivial⟩ ⟨rfl, rfl, rfl, trivial⟩ ?_
  intro k hx
  simp only [upd, za, zaa, List.cons_append, List.nil_append]
  obtain ⟨hk, he⟩ := hx
  refine zae ?_
  refine zae ?_
  refine zad ?_
  refine zab rfl rfl rfl (zac (.inl rfl) (ev1 rfl)) ?_
  refine zab rfl rfl rfl (op_ldm rfl tb22 (ev1 rfl) rfl rfl) ?_
  refine zab rfl rfl rfl (op_len rfl sl22 (ev1 rfl)) ?_
  refine zab rfl rfl rfl (op_lss rfl (ev1 rfl) (ev1 rfl)) ?_
  refine zaf ?_
  refine dwp_cond rfl (fun c1 => ?_) (fun c1 => ?_)
  · try simp only [decide_eq_true_eq, decide_eq_false_iff_not, beq_iff_eq, bne_iff_ne, beq_eq_false_iff_ne, bne_eq_false_iff_eq, Bool.not_eq_true', Bool.not_eq_false', Bool.and_eq_true, Bool.or_eq_true, Bool.or_eq_false_iff, ne_eq, Decidable.not_not, Int.not_lt, Int.not_le] at c1
    refine zal ?_
    refine zae ?_
    refine zam ?_
    refine zae ?_
    refine dwp_draw [([], []), ([2], []), ([], []), ([], []), ([], []), ([], []), ([2], []), ([], []), ([], []), ([], []), ([0, 1], [0, 1]), ([], [])] mixed (by kernel_rfl) ?_
    refine zag rfl rfl (zac (.inl rfl) (ev1 rfl)) ?_
    refine zag rfl rfl (op_ldm rfl tb22 (ev1 rfl) rfl rfl) ?_
    refine zag rfl rfl (zac (.inl rfl) (ev1 rfl)) ?_
    refine zag rfl rfl (op_sub' rfl (ev1 rfl) (ev1 rfl) (fun _ => IntWalk.i64_in _ (by omega))) ?_
    refine zag rfl rfl (op_ixsr (j := k) rfl sl22 (ev1 rfl) (ev1 rfl) (fun _ => rfl) (by decide) (by omega) (by omega)) ?_
    refine zag rfl rfl (op_ldwd rfl tb35 (ev1 rfl) rfl) ?_
    refine zag rfl rfl (op_ldm rfl tb22 (ev1 rfl) rfl rfl) ?_
    refine zag rfl rfl (zac (.inl rfl) (ev1 rfl)) ?_
    refine zag rfl rfl (op_ixsr (j := k + 1) rfl sl22 (ev1 rfl) (ev1 rfl) (fun _ => rfl) (by decide) (by omega) (by omega)) ?_
    refine zag rfl rfl (op_ldwd rfl tb35 (ev1 rfl) rfl) ?_
    refine lex_w rfl rfl (op_y (i := 0) [0, 1] [] [] rfl (ev1 rfl) (ec (ev1 rfl) (ec (ev1 rfl) en)) rfl rfl rfl (risR l[k] l[k + 1]) rfl rfl rfl rfl rfl) rfl (by simp only [upd, za, zaa]; exact rfl) ?_
    refine zag rfl rfl (op_not rfl (ev1 rfl)) ?_
    refine lex_nil ?_
    refine dwp_cond rfl (fun c2 => ?_) (fun c2 => ?_)
    · have e1 : lessR l[k] l[k + 1] = false := by simpa using c2
      refine dwp_ret ?_
      have e2 : risL l = false := risN_no l.length k (by omega) (by rw [gI (by omega), gI (by omega)]; exact e1)
      rw [e2, e1]
      refine kend [0, 1, 2] (res_none rfl) rfl rfl ?_ ⟨rfl, rfl, rfl, trivial⟩
      rfl
    · have e1 : lessR l[k] l[k + 1] = true := by simpa using c2
      refine zal ?_
      refine zad ?_
      refine zab rfl rfl rfl (zac (.inl rfl) (ev1 rfl)) ?_
      refine zab rfl rfl rfl (op_add' rfl (ev1 rfl) (ev1 rfl) (fun _ => IntWalk.i64_in _ (by omega))) ?_
      refine zab rfl rfl rfl (zac (.inr rfl) (ev1 rfl)) ?_
      refine zaf ?_
      rw [e1]
      refine ⟨k + 1, [0, 1, 2], ⟨.inl (by omega), by rw [risN, he, gI (by omega), gI (by omega), e1]; rfl⟩, by simp only []; omega, rfl, ⟨rfl, rfl, rfl, trivial⟩, ⟨rfl, rfl, rfl, trivial⟩⟩
  · try simp only [decide_eq_true_eq, decide_eq_false_iff_not, beq_iff_eq, bne_iff_ne, beq_eq_false_iff_ne, bne_eq_false_iff_eq, Bool.not_eq_true', Bool.not_eq_false', Bool.and_eq_true, Bool.or_eq_true, Bool.or_eq_false_iff, ne_eq, Decidable.not_not, Int.not_lt, Int.not_le] at c1
    refine dwp_exit ?_
    have e2 : risL l = true := by
      unfold risL
      rcases hk with hk | hk
      · rw [show l.length = k + 1 by omega]; exact he
      · subst hk
        rcases Nat.lt_or_ge l.length 1 with h0 | h0
        · rw [show l.length = 0 by omega]; rfl
        · rw [show l.length = 1 by omega]; rfl
    rw [e2]
    refine kend [0, 1, 2] (res_none rfl) rfl rfl ?_ ⟨rfl, rfl, rfl, trivial⟩
    rfl
set_option maxRecDepth 4000 in
set_option maxHeartbeats 1000000 in
theorem rising_d (l : List I3) (hn : l.length ≤ 1000000) : DFun Try.prog 38 [.slf 3 l.length (l.flatMap idc)] [] (.val (.bool (risL l))) [] := by
  refine zao (N := 15) 0 (by kernel_rfl) Try.func38 rfl rfl rfl (by simp only [fr0, Nat.zero_add, Nat.reduceAdd]; exact rfl) rfl fun s0 hs0 => ?_
  refine dwp_len (t := 0) rfl fun hl0 hL0 => ?_
  refine zae ?_
  refine zad ?_
  refine zab rfl rfl rfl (zac (.inr rfl) (ev1 rfl)) ?_
  refine zaf ?_
  refine dwp_scope ?_
  refine zae ?_
  refine zak 1 (by simp only [holes, List.cons_append, List.nil_append]; exact rfl) ?_
  refine zad ?_
  refine zan rfl rfl rfl (op_alloc 0 rfl zr4 rfl) (by simp only [upd, za, zaa]; exact rfl) ?_
  refine walk_s rfl rfl (op_stwb rfl tb4 (ev1 rfl) (ev1 rfl) rfl) (by simp only [upd, za, zaa]; exact rfl) ?_
  refine zaf ?_
  refine zae ?_
  refine dwp_label ?_
  refine zae ?_
  refine zae ?_
  refine zak 1 (by simp only [holes, List.cons_append, List.nil_append]; exact rfl) ?_
  refine zad ?_
  refine zab rfl rfl rfl (zac (.inl rfl) (ev1 rfl)) ?_
  refine zan rfl rfl rfl (zah [] [] [1] rfl (ev1 rfl) (ec (ev1 rfl) en) rfl rfl (pairs_d l) rfl rfl rfl rfl rfl rfl) (by simp only [upd, za, zaa]; exact rfl) ?_
  refine zaf ?_
  refine zam ?_
  refine dwp_hole ?_
  simp only [List.cons_append, List.nil_append]
  refine dwp_rf (FL := [(3, _)]) (st := (rst (risL l))) (pe := (rpe (.exit 0) (risL l))) [2, 0, 1] [] [] 2 rfl rfl (ev1 rfl) rfl (subF_lk ⟨rfl, trivial⟩) rfl rfl rfl (pairs_ris l hn) rfl rfl rfl rfl rfl rfl rfl (rst_busy _) (fun e => ?_) (fun c e => ?_)
  · simp only [upd, za, zaa]
    refine zae ?_
    refine zad ?_
    refine zab rfl rfl rfl (op_ldo rfl tb4 (ev1 rfl) rfl rfl) ?_
    refine zab rfl rfl rfl (zac (.inr rfl) (ev1 rfl)) ?_
    refine zaf ?_
    refine dwp_ret ?_
    refine kend0 (rs1 rfl (rv_t rfl)) rfl ?_
    rfl
  · obtain ⟨e1, rfl⟩ : risL l = false ∧ c = .exit 0 := by
      cases h : risL l <;> simp_all [rpe]
    simp only [upd, za, zaa]
    refine dwp_exit ?_
    refine zae ?_
    refine zad ?_
    refine zab rfl rfl rfl (op_ldo rfl tb4 (ev1 rfl) rfl rfl) ?_
    refine zab rfl rfl rfl (zac (.inr rfl) (ev1 rfl)) ?_
    refine zaf ?_
    refine dwp_ret ?_
    refine kend0 (rs1 rfl (rv_t rfl)) rfl ?_
    rfl
end Go.Proofs.Ytmpodnadoebclaa
namespace Go.Proofs.Ytmpodnadoebclaa
set_option maxRecDepth 4000
set_option linter.unusedVariables false
set_option linter.unusedSimpArgs false
open Go.RowKit
theorem fo44_0 : fdO Try.prog 44 0 = some 0 := by kernel_rfl
theorem fo44_1 : fdO Try.prog 44 1 = some 3 := by kernel_rfl
theorem sl25 : slE Try.prog 25 = some (44, 4, 32) := by kernel_rfl
theorem sl26 : slE Try.prog 26 = some (44, 4, 32) := by kernel_rfl
theorem tb44 : tyB Try.prog 44 = some (true, 4) := by kernel_rfl
theorem zr44 : zrC Try.prog 44 = some [.int .u64 0, .int .i64 0, .int .u64 0, .pointer none] := by kernel_rfl
structure Mk where
  i : I3
  ds : List D
  ts : List TL
  ok : RowOk ds ts
  cv : CvOk 2 1 ts
abbrev Mk.c (m : Mk) : List D := [.val (.int .i64 2), .val (.int .i64 1), .slm 1 m.ds.length m.ds]
def mkC (m : Mk) : List D := [.val (.int .u64 m.i.t), .val (.int .i64 m.i.s), .val (.int .u64 m.i.q), .dpm m.c]
def zMk : Mk := ⟨zI3, dpR [zT, zT], [zT, zT], dpR_ok _, ⟨by decide, by decide⟩⟩
abbrev idsK (l : List Mk) : List I3 := l.map Mk.i
def isMk (m : Mk) : Bool := mayR m.i
def chkM (l : List Mk) : Bool := decide (l.length ≤ 6) && risL (idsK l) && l.all isMk
theorem mk_nl (l : List Mk) : D.nlL (l.flatMap mkC) = true := nlL_flat (fun _ => rfl) l
theorem mk_oc (l : List Mk) : (l.flatMap mkC).all D.oc2 = true := by
  induction l with
  | nil => rfl
  | cons a l ih => rw [List.flatMap_cons, List.all_append, ih, Bool.and_true]; rfl
theorem filt_len {α : Type} {q : α → Bool} {l : List α} : decide (((l.filter q).length : Int) < (l.length : Int)) = !l.all q := by
  rw [Bool.eq_iff_iff, decide_eq_true_eq]
  have h := List.length_filter_le q l
  constructor
  · intro h1
    cases h2 : l.all q with
    | false => rfl
    | true =>
      rw [List.filter_eq_self.2 (List.all_eq_true.1 h2)] at h1
      omega
  · intro h1
    rcases Nat.lt_or_ge (l.filter q).length l.length with h2 | h2
    · omega
    · have h3 : l.filter q = l := List.Sublist.eq_of_length_le List.filter_sublist h2
      have h4 : l.all q = true := List.all_eq_true.2 (List.filter_eq_self.1 h3)
      rw [h4] at h1
      cases h1
theorem filt_take {α : Type} {q : α → Bool} {l : List α} {k : Nat} (h : k < l.length) : (l.take (k + 1)).filter q = (l.take k).filter q ++ if q l[k] = true then [l[k]] else [] := by
  rw [List.take_succ_eq_append_getElem h, List.filter_append, List.filter_cons]
  split <;> rfl
theorem filt_tl {α : Type} {q : α → Bool} {l : List α} {k : Nat} : ((l.take k).filter q).length ≤ k := Nat.le_trans (List.length_filter_le _ _) (by rw [List.length_take]; omega)
set_option maxRecDepth 4000 in
set_option maxHeartbeats 1000000 in
theorem isMark_d (m : Mk) : DFun Try.prog 42 [.agg (mkC m)] [] (.val (.bool (isMk m))) [] := by
  refine zao (N := 12) 0 (by kernel_rfl) Try.func42 rfl rfl rfl (by simp only [fr0, Nat.zero_add, Nat.reduceAdd]; exact rfl) rfl fun s0 hs0 => ?_
  refine zae ?_
  refine zak 1 (by simp only [holes, List.cons_append, List.nil_append]; exact rfl) ?_
  refine zad ?_
  refine zan rfl rfl rfl (op_boxam 0 rfl (ev1 rfl) rfl) (by simp only [upd, za, zaa]; exact rfl) ?_
  refine zab rfl rfl rfl (zac (.inr rfl) (ev1 rfl)) ?_
  refine zaf ?_
  refine zae ?_
  refine zad ?_
  refine zab rfl rfl rfl (op_fa rfl fo44_1 (ev1 rfl)) ?_
  refine zab rfl rfl rfl (op_ldm rfl tb42 (ev1 rfl) rfl rfl) ?_
  refine zab rfl rfl rfl (op_pnilmn rfl pt42 (ev1 rfl)) ?_
  refine zab rfl rfl rfl (zac (.inl rfl) (ev1 rfl)) ?_
  refine zaj (gd_t rfl rfl rfl) rfl rfl rfl (op_fa rfl fo44_0 (ev1 rfl)) ?_
  refine zaj (gd_t rfl rfl rfl) rfl rfl rfl (op_ldmv (R := [_, _, _]) rfl tb35 (ev2 rfl) rfl rfl rfl) ?_
  refine zaj (gd_t rfl rfl rfl) rfl rfl rfl (zah [] [] [] rfl (ev1 rfl) (ec (ev2 rfl) en) rfl rfl (idCheck_d _) rfl rfl rfl rfl rfl rfl) ?_
  refine zaj (gd_t rfl rfl rfl) rfl rfl rfl (op_eql rfl (ev2 rfl) (ev1 rfl)) ?_
  refine zab rfl rfl rfl (op_and rfl (ev1 rfl) (ev3 rfl id)) ?_
  refine zab rfl rfl rfl (zac (.inr rfl) (ev1 rfl)) ?_
  refine zaf ?_
  refine dwp_ret ?_
  refine kend0 (rs1 rfl (rv_t rfl)) rfl ?_
  rw [Bool.true_and]
  unfold isMk
  cases mayR m.i <;> rfl
set_option maxRecDepth 4000 in
set_option maxHeartbeats 1000000 in
theorem ids_d (l : List Mk) (h : l.length ≤ 1000000) : DFun Try.prog 40 [.slm 4 (l).length ((l).flatMap mkC)] [] (.slf 3 (idsK l).length ((idsK l).flatMap idc)) [] := by
  refine zao (N := 22) 0 (by kernel_rfl) Try.func40 rfl rfl rfl (by simp only [fr0, Nat.zero_add, Nat.reduceAdd]; exact rfl) rfl fun s0 hs0 => ?_
  refine dwp_lenm (t := 0) rfl fun hl0 hL0 => ?_
  refine zae ?_
  refine zad ?_
  refine zab rfl rfl rfl (zac (.inr rfl) (ev1 rfl)) ?_
  refine zaf ?_
  refine zae ?_
  refine zak 1 (by simp only [holes, List.cons_append, List.nil_append]; exact rfl) ?_
  refine zad ?_
  refine zab rfl rfl rfl (zac (.inl rfl) (ev1 rfl)) ?_
  refine zab rfl rfl rfl (op_lenm rfl sl26 (ev1 rfl)) ?_
  refine zan rfl rfl rfl (op_mk0 0 (l.length) rfl sl22 zr35 (ev1 rfl) (ev1 rfl) (fun _ => rfl) (fun _ => by omega) rfl (fun _ => ⟨by omega, by omega⟩)) (by simp only [upd, za, zaa]; exact rfl) ?_
  refine zab rfl rfl rfl (zac (.inr rfl) (ev1 rfl)) ?_
  refine zaf ?_
  refine zae ?_
  refine zae ?_
  refine zad ?_
  refine zab rfl rfl rfl (zac (.inl rfl) (ev1 rfl)) ?_
  refine zab rfl rfl rfl (op_lenm rfl sl26 (ev1 rfl)) ?_
  refine zab rfl rfl rfl (zac (.inl rfl) (ev1 rfl)) ?_
  refine zaf ?_
  refine zam ?_
  refine dwp_loopS ⟨hs0, rfl⟩ (α := Nat) (fun k => [(11, .val (.int .i64 (k : Int)))]) [(3, _), (9, _), (10, _)] (fun k => [(0, .arr 35 3 (idsK (l.take k)).length ((idsK (l.take k)).flatMap idc))]) [.hole] (fun k => k ≤ l.length) (fun k => l.length - k) 0 [0] (Nat.zero_le _) rfl ⟨rfl, rfl, rfl, trivial⟩ ⟨rfl, trivial⟩ ⟨rfl, trivial⟩ ?_
  intro k hx
  simp only [upd, za, zaa, List.cons_append, List.nil_append]
  have hk := hx
  have htl : (idsK (l.take k)).length = k := by rw [List.length_map, List.length_take]; omega
  refine zae ?_
  refine zad ?_
  refine zab rfl rfl rfl (op_lss rfl (ev1 rfl) (ev1 rfl)) ?_
  refine zaf ?_
  refine zae ?_
  refine dwp_cond rfl (fun c1 => ?_) (fun c1 => ?_)
  · try simp only [decide_eq_true_eq, decide_eq_false_iff_not, beq_iff_eq, bne_iff_ne, beq_eq_false_iff_ne, bne_eq_false_iff_eq, Bool.not_eq_true', Bool.not_eq_false', Bool.and_eq_true, Bool.or_eq_true, Bool.or_eq_false_iff, ne_eq, Decidable.not_not, Int.not_lt, Int.not_le] at c1
    refine zal ?_
    refine zae ?_
    refine zam ?_
    refine zae ?_
    refine zak 1 (by simp only [holes, List.cons_append, List.nil_append]; exact rfl) ?_
    refine zad ?_
    refine zab rfl rfl rfl (op_ixmr (k) (by decide) rfl sl26 (ev1 rfl) (ev1 rfl) (fun _ => rfl) (by omega) (fun _ => rfl)) ?_
    refine zab rfl rfl rfl (op_lddr rfl tb44 (ev1 rfl) rfl rfl) ?_
    refine zan rfl rfl rfl (op_alloc 1 rfl zr44 rfl) (by simp only [upd, za, zaa]; exact rfl) ?_
    refine walk_s rfl rfl (op_stam2 rfl tb44 (ev1 rfl) (ev1 rfl) rfl rfl rfl rfl) (by simp only [upd, za, zaa]; exact rfl) ?_
    refine zaf ?_
    refine zak 2 (by simp only [holes, List.cons_append, List.nil_append]; exact rfl) ?_
    refine zad ?_
    refine zab rfl rfl rfl (zac (.inl rfl) (ev1 rfl)) ?_
    refine zab rfl rfl rfl (op_fa rfl fo44_0 (ev1 rfl)) ?_
    refine zab rfl rfl rfl (op_ldmv (R := [_, _, _]) rfl tb35 (ev1 rfl) rfl rfl rfl) ?_
    refine zan rfl rfl rfl (op_bsa (ps := [(0, .tmp 17)]) 2 rfl sl22 zr35 rfl (vc (ev1 rfl) vn) rfl (by decide) (by decide) rfl) (by simp only [upd, za, zaa]; exact rfl) ?_
    refine zan rfl rfl rfl (op_app (j := 3) rfl sl22 zr35 rfl (ev1 rfl) (ev1 rfl) (src_arr rfl) rfl rfl (fun _ => rfl) (fun _ => ⟨by omega, by omega⟩)) (by simp only [upd, za, zaa]; exact rfl) ?_
    refine zab rfl rfl rfl (zac (.inr rfl) (ev1 rfl)) ?_
    refine zaf ?_
    refine zad ?_
    refine zab rfl rfl rfl (op_add' rfl (ev1 rfl) (ev1 rfl) (fun _ => IntWalk.i64_in _ (by omega))) ?_
    refine zab rfl rfl rfl (zac (.inl rfl) (ev1 rfl)) ?_
    refine zaf ?_
    refine ⟨k + 1, [3], by omega, by simp only []; omega, rfl, ⟨rfl, rfl, rfl, rfl, trivial⟩, ⟨arr_eq (by rw [List.take_succ_eq_append_getElem (by omega), idsK, idsK, List.map_append, List.length_append]; rfl) (by rw [List.take_succ_eq_append_getElem (by omega), idsK, idsK, List.map_append, List.flatMap_append]; rfl), trivial⟩⟩
  · try simp only [decide_eq_true_eq, decide_eq_false_iff_not, beq_iff_eq, bne_iff_ne, beq_eq_false_iff_ne, bne_eq_false_iff_eq, Bool.not_eq_true', Bool.not_eq_false', Bool.and_eq_true, Bool.or_eq_true, Bool.or_eq_false_iff, ne_eq, Decidable.not_not, Int.not_lt, Int.not_le] at c1
    refine dwp_exit ?_
    refine zae ?_
    refine dwp_giveA 3 rfl rfl (by simp only [za, zaa]; exact rfl) ?_
    refine zad ?_
    refine zab rfl rfl rfl (zac (.inl rfl) (ev1 rfl)) ?_
    refine zab rfl rfl rfl (zac (.inr rfl) (ev1 rfl)) ?_
    refine zaf ?_
    refine dwp_ret ?_
    rw [List.take_of_length_le (by omega)]
    refine kend0 (rs1 rfl (rv_t rfl)) rfl ?_
    rfl
set_option maxRecDepth 4000 in
set_option maxHeartbeats 1000000 in
theorem stay_o (l : List Mk) (h : l.length ≤ 5000)  : DFun Try.prog 41 [.slm 4 (l).length ((l).flatMap mkC), .fn (.func 42) [] []] [] (.arr 0) [.arx 44 4 ((l.filter isMk)).length (((l.filter isMk)).flatMap mkC)] := by
  refine zao (N := 23) 0 (by kernel_rfl) Try.func41 rfl rfl rfl (by simp only [fr0, Nat.zero_add, Nat.reduceAdd]; exact rfl) rfl fun s0 hs0 => ?_
  refine dwp_lenm (t := 0) rfl fun hl0 hL0 => ?_
  refine zae ?_
  refine zad ?_
  refine zab rfl rfl rfl (zac (.inr rfl) (ev1 rfl)) ?_
  refine zaf ?_
  refine zae ?_
  refine zad ?_
  refine zab rfl rfl rfl (zac (.inr rfl) (ev1 rfl)) ?_
  refine zaf ?_
  refine zae ?_
  refine zae ?_
  refine zad ?_
  refine zab rfl rfl rfl (zac (.inl rfl) (ev1 rfl)) ?_
  refine zab rfl rfl rfl (op_lenm rfl sl25 (ev1 rfl)) ?_
  refine zab rfl rfl rfl (zac (.inl rfl) (ev1 rfl)) ?_
  refine zaf ?_
  refine zam ?_
  refine dwp_adoptx 5 44 4 rfl rfl rfl ?_
  refine dwp_loopS ⟨hs0, rfl⟩ (α := Nat) (fun k => [(10, .val (.int .i64 (k : Int)))]) [(1, _), (5, _), (8, _), (9, _)] (fun k => [(0, .arx 44 4 (((l.take k).filter isMk)).length ((((l.take k).filter isMk)).flatMap mkC))]) [.hole] (fun k => k ≤ l.length) (fun k => l.length - k) 0 [0] (Nat.zero_le _) rfl ⟨rfl, rfl, rfl, rfl, trivial⟩ ⟨rfl, trivial⟩ ⟨rfl, trivial⟩ ?_
  intro k hx
  simp only [upd, za, zaa, List.cons_append, List.nil_append]
  have hk := hx
  have htl : ((l.take k).filter isMk).length ≤ k := filt_tl
  refine zae ?_
  refine zad ?_
  refine zab rfl rfl rfl (op_lss rfl (ev1 rfl) (ev1 rfl)) ?_
  refine zaf ?_
  refine zae ?_
  refine dwp_cond rfl (fun c1 => ?_) (fun c1 => ?_)
  · try simp only [decide_eq_true_eq, decide_eq_false_iff_not, beq_iff_eq, bne_iff_ne, beq_eq_false_iff_ne, bne_eq_false_iff_eq, Bool.not_eq_true', Bool.not_eq_false', Bool.and_eq_true, Bool.or_eq_true, Bool.or_eq_false_iff, ne_eq, Decidable.not_not, Int.not_lt, Int.not_le] at c1
    refine zal ?_
    refine zae ?_
    refine zam ?_
    refine zae ?_
    refine zak 1 (by simp only [holes, List.cons_append, List.nil_append]; exact rfl) ?_
    refine zad ?_
    refine zab rfl rfl rfl (op_ixmr (k) (by decide) rfl sl25 (ev1 rfl) (ev1 rfl) (fun _ => rfl) (by omega) (fun _ => rfl)) ?_
    refine zab rfl rfl rfl (op_lddr rfl tb44 (ev1 rfl) rfl rfl) ?_
    refine zan rfl rfl rfl (op_alloc 1 rfl zr44 rfl) (by simp only [upd, za, zaa]; exact rfl) ?_
    refine walk_s rfl rfl (op_stam2 rfl tb44 (ev1 rfl) (ev1 rfl) rfl rfl rfl rfl) (by simp only [upd, za, zaa]; exact rfl) ?_
    refine zaf ?_
    refine zae ?_
    refine zad ?_
    refine zab rfl rfl rfl (zac (.inl rfl) (ev1 rfl)) ?_
    refine zab rfl rfl rfl (op_ldmw rfl tb44 (ev1 rfl) rfl rfl) ?_
    refine zab rfl rfl rfl (zah [] [] [] rfl (ev1 rfl) (ec (ev1 rfl) en) rfl rfl (isMark_d l[k]) rfl rfl rfl rfl rfl rfl) ?_
    refine zaf ?_
    refine dwp_cond rfl (fun c2 => ?_) (fun c2 => ?_)
    · have c3 : isMk l[k] = true := c2
      refine zak 1 (by simp only [holes, List.cons_append, List.nil_append]; exact rfl) ?_
      refine zad ?_
      refine zab rfl rfl rfl (zac (.inl rfl) (ev1 rfl)) ?_
      refine zab rfl rfl rfl (op_ldmw rfl tb44 (ev1 rfl) rfl rfl) ?_
      refine zab rfl rfl rfl (op_bsr (ps := [(0, .tmp 18)]) rfl sl25 zr44 rfl (ec (ev1 rfl) en) rfl rfl rfl (by rfl) rfl (by decide) (by decide)) ?_
      refine zan rfl rfl rfl (op_appr (j := 2) rfl sl25 zr44 rfl (ev1 rfl) (ev1 rfl) rfl rfl (rfl) (fun _ => ⟨by omega, by omega⟩)) (by simp only [upd, za, zaa]; exact rfl) ?_
      refine zab rfl rfl rfl (zac (.inr rfl) (ev1 rfl)) ?_
      refine zaf ?_
      refine zad ?_
      refine zab rfl rfl rfl (op_add' rfl (ev1 rfl) (ev1 rfl) (fun _ => IntWalk.i64_in _ (by omega))) ?_
      refine zab rfl rfl rfl (zac (.inl rfl) (ev1 rfl)) ?_
      refine zaf ?_
      refine ⟨k + 1, [2], by omega, by simp only []; omega, rfl, ⟨rfl, rfl, rfl, rfl, rfl, trivial⟩, ⟨arxr_fits (by rw [filt_take (by omega), if_pos c3, List.length_append]; rfl) (by rw [filt_take (by omega), if_pos c3, List.flatMap_append]; rfl) (mk_nl _), trivial⟩⟩
    · have c3 : ¬ isMk l[k] = true := by rw [Bool.not_eq_true]; exact c2
      refine zal ?_
      refine zad ?_
      refine zab rfl rfl rfl (op_add' rfl (ev1 rfl) (ev1 rfl) (fun _ => IntWalk.i64_in _ (by omega))) ?_
      refine zab rfl rfl rfl (zac (.inl rfl) (ev1 rfl)) ?_
      refine zaf ?_
      refine ⟨k + 1, [0], by omega, by simp only []; omega, rfl, ⟨rfl, rfl, rfl, rfl, rfl, trivial⟩, ⟨arxr_fits (by rw [filt_take (by omega), if_neg c3, List.append_nil]) (by rw [filt_take (by omega), if_neg c3, List.append_nil]) (mk_nl _), trivial⟩⟩
  · try simp only [decide_eq_true_eq, decide_eq_false_iff_not, beq_iff_eq, bne_iff_ne, beq_eq_false_iff_ne, bne_eq_false_iff_eq, Bool.not_eq_true', Bool.not_eq_false', Bool.and_eq_true, Bool.or_eq_true, Bool.or_eq_false_iff, ne_eq, Decidable.not_not, Int.not_lt, Int.not_le] at c1
    refine dwp_exit ?_
    refine zae ?_
    refine zad ?_
    refine zab rfl rfl rfl (zac (.inl rfl) (ev1 rfl)) ?_
    refine zab rfl rfl rfl (zac (.inr rfl) (ev1 rfl)) ?_
    refine zaf ?_
    refine dwp_ret ?_
    rw [List.take_of_length_le (by omega)]
    refine kend [0] (rs1 rfl (rv_t rfl)) rfl rfl ?_ ⟨?_, trivial⟩
    rfl
    all_goals first | exact rfl | exact arxr_fits rfl rfl (mk_nl _)
theorem stay_d (l : List Mk) (h : l.length ≤ 5000) : DFun Try.prog 41 [.slm 4 (l).length ((l).flatMap mkC), .fn (.func 42) [] []] [] (.slm 4 (l.filter isMk).length ((l.filter isMk).flatMap mkC)) [] := freeze (stay_o l h) (vw_arrV rfl rfl rfl (mk_nl _))
set_option maxRecDepth 4000 in
set_option maxHeartbeats 1000000 in
theorem mcheck_d (l : List Mk) (h : l.length ≤ 5000) : DFun Try.prog 12 [.slm 4 (l).length ((l).flatMap mkC)] [] (.val (.int .i64 (errOr (chkM l) 260))) [] := by
  refine zao (N := 20) 0 (by kernel_rfl) Try.func12 rfl rfl rfl (by simp only [fr0, Nat.zero_add, Nat.reduceAdd]; exact rfl) rfl fun s0 hs0 => ?_
  refine dwp_lenm (t := 0) rfl fun hl0 hL0 => ?_
  refine zae ?_
  refine zad ?_
  refine zab rfl rfl rfl (zac (.inr rfl) (ev1 rfl)) ?_
  refine zaf ?_
  refine zae ?_
  refine zae ?_
  refine zad ?_
  refine zab rfl rfl rfl (zac (.inl rfl) (ev1 rfl)) ?_
  refine zab rfl rfl rfl (op_lenm rfl sl26 (ev1 rfl)) ?_
  refine zab rfl rfl rfl (op_gtr rfl (ev1 rfl) (ev1 rfl)) ?_
  refine zab rfl rfl rfl (zac (.inl rfl) (ev1 rfl)) ?_
  refine zaj (gd_f rfl rfl rfl) rfl rfl rfl (zac (.inl rfl) (ev1 rfl)) ?_
  refine zaj (gd_f rfl rfl rfl) rfl rfl rfl (zah [] [] [] rfl (ev1 rfl) (ec (ev2 rfl) en) rfl rfl (ids_d _ (by omega)) rfl rfl rfl rfl rfl rfl) ?_
  refine zaj (gd_f rfl rfl rfl) rfl rfl rfl (zah [] [] [] rfl (ev1 rfl) (ec (ev2 rfl) en) rfl rfl (rising_d _ (by rw [List.length_map]; omega)) rfl rfl rfl rfl rfl rfl) ?_
  refine zaj (gd_f rfl rfl rfl) rfl rfl rfl (op_not rfl (ev2 rfl)) ?_
  refine zab rfl rfl rfl (op_or rfl (ev1 rfl) (ev3 rfl id)) ?_
  refine zab rfl rfl rfl (zac (.inl rfl) (ev1 rfl)) ?_
  refine zaj (gd_f rfl rfl rfl) rfl rfl rfl (zac (.inl rfl) (ev1 rfl)) ?_
  refine zaj (gd_f rfl rfl rfl) rfl rfl rfl (zah [] [] [] rfl (ev1 rfl) (ec (ev2 rfl) (ec (ev1 rfl) en)) rfl rfl (stay_d l (by omega)) rfl rfl rfl rfl rfl rfl) ?_
  refine zaj (gd_f rfl rfl rfl) rfl rfl rfl (op_lenm rfl sl25 (ev2 rfl)) ?_
  refine zaj (gd_f rfl rfl rfl) rfl rfl rfl (zac (.inl rfl) (ev1 rfl)) ?_
  refine zaj (gd_f rfl rfl rfl) rfl rfl rfl (op_lenm rfl sl26 (ev2 rfl)) ?_
  refine zaj (gd_f rfl rfl rfl) rfl rfl rfl (op_lss rfl (ev2 rfl) (ev2 rfl)) ?_
  refine zab rfl rfl rfl (op_or rfl (ev1 rfl) (ev3 rfl id)) ?_
  refine zaf ?_
  refine dwp_cond rfl (fun c1 => ?_) (fun c1 => ?_)
  · have e : chkM l = false := by
      rw [filt_len] at c1
      unfold chkM
      cases h1 : risL (idsK l) <;> cases h2 : l.all isMk <;> simp [h1, h2] at c1 ⊢ <;> omega
    refine zae ?_
    refine zad ?_
    refine zab rfl rfl rfl (zac (.inr rfl) (ev1 rfl)) ?_
    refine zaf ?_
    refine dwp_ret ?_
    refine kend0 (rs1 rfl (rv_t rfl)) rfl ?_
    rw [e]
    rfl
  · have e : chkM l = true := by
      rw [filt_len] at c1
      unfold chkM
      cases h1 : risL (idsK l) <;> cases h2 : l.all isMk <;> simp [h1, h2] at c1 ⊢ <;> omega
    refine zal ?_
    refine zae ?_
    refine zad ?_
    refine zab rfl rfl rfl (zac (.inr rfl) (ev1 rfl)) ?_
    refine zaf ?_
    refine dwp_ret ?_
    refine kend0 (rs1 rfl (rv_t rfl)) rfl ?_
    rw [e]
    rfl
set_option maxRecDepth 4000 in
set_option maxHeartbeats 1000000 in
theorem Ids_y (l : List Mk) (h : l.length ≤ 5000) (hc : chkM l = true) : DFun Try.prog 30 [.slm 4 (l).length ((l).flatMap mkC)] [] (.slf 3 (idsK l).length ((idsK l).flatMap idc)) [] := by
  refine zao (N := 8) 0 (by kernel_rfl) Try.func30 rfl rfl rfl (by simp only [fr0, Nat.zero_add, Nat.reduceAdd]; exact rfl) rfl fun s0 hs0 => ?_
  refine dwp_lenm (t := 0) rfl fun hl0 hL0 => ?_
  refine zae ?_
  refine zad ?_
  refine zab rfl rfl rfl (zac (.inr rfl) (ev1 rfl)) ?_
  refine zaf ?_
  refine zae ?_
  refine zae ?_
  refine zad ?_
  refine zab rfl rfl rfl (zac (.inl rfl) (ev1 rfl)) ?_
  refine zab rfl rfl rfl (zah [] [] [] rfl (ev1 rfl) (ec (ev1 rfl) en) rfl rfl (mcheck_d _ (by omega)) rfl rfl rfl rfl rfl rfl) ?_
  refine zab rfl rfl rfl (op_neq rfl (ev1 rfl) (ev1 rfl)) ?_
  refine zaf ?_
  refine dwp_if_f rfl (by rw [hc]; rfl) ?_
  refine zal ?_
  refine zae ?_
  refine zad ?_
  refine zab rfl rfl rfl (zac (.inl rfl) (ev1 rfl)) ?_
  refine zab rfl rfl rfl (zah [] [] [] rfl (ev1 rfl) (ec (ev1 rfl) en) rfl rfl (ids_d _ (by omega)) rfl rfl rfl rfl rfl rfl) ?_
  refine zab rfl rfl rfl (zac (.inr rfl) (ev1 rfl)) ?_
  refine zaf ?_
  refine dwp_ret ?_
  refine kend0 (rs1 rfl (rv_t rfl)) rfl ?_
  rfl
set_option maxRecDepth 4000 in
set_option maxHeartbeats 1000000 in
theorem Ids_v (l : List Mk) (h : l.length ≤ 5000) (hc : chkM l = false) : DFun Try.prog 30 [.slm 4 (l).length ((l).flatMap mkC)] [] (.val (.slice none 0 0)) [] := by
  refine zao (N := 8) 0 (by kernel_rfl) Try.func30 rfl rfl rfl (by simp only [fr0, Nat.zero_add, Nat.reduceAdd]; exact rfl) rfl fun s0 hs0 => ?_
  refine dwp_lenm (t := 0) rfl fun hl0 hL0 => ?_
  refine zae ?_
  refine zad ?_
  refine zab rfl rfl rfl (zac (.inr rfl) (ev1 rfl)) ?_
  refine zaf ?_
  refine zae ?_
  refine zae ?_
  refine zad ?_
  refine zab rfl rfl rfl (zac (.inl rfl) (ev1 rfl)) ?_
  refine zab rfl rfl rfl (zah [] [] [] rfl (ev1 rfl) (ec (ev1 rfl) en) rfl rfl (mcheck_d _ (by omega)) rfl rfl rfl rfl rfl rfl) ?_
  refine zab rfl rfl rfl (op_neq rfl (ev1 rfl) (ev1 rfl)) ?_
  refine zaf ?_
  refine dwp_if_t rfl (by rw [hc]; rfl) ?_
  refine zae ?_
  refine zad ?_
  refine zab rfl rfl rfl (zac (.inr rfl) (ev1 rfl)) ?_
  refine zaf ?_
  refine dwp_ret ?_
  refine kend0 (rs1 rfl (rv_t rfl)) rfl ?_
  rfl
def idsC (l : List Mk) : List I3 := if chkM l = true then idsK l else []
theorem Ids_d (l : List Mk) (h : l.length ≤ 5000) : DFun Try.prog 30 [.slm 4 (l).length ((l).flatMap mkC)] [] (.slf 3 (idsC l).length ((idsC l).flatMap idc)) [] := by
  unfold idsC
  cases hc : chkM l
  · exact (Ids_v l h hc).wk (Wk.slf0 3)
  · exact Ids_y l h hc
set_option maxRecDepth 4000 in
set_option maxHeartbeats 1000000 in
theorem drop1_d (m : Mk) (i : I3) : DFun Try.prog 52 [.agg (mkC m), .loc 0 0] [.flat 35 (idc i)] (.val (.bool (lessR m.i i))) [.flat 35 (idc i)] := by
  refine zao (N := 8) 1 (by kernel_rfl) Try.func52 rfl rfl rfl (by simp only [fr0, Nat.zero_add, Nat.reduceAdd]; exact rfl) rfl fun s0 hs0 => ?_
  refine zae ?_
  refine zak 1 (by simp only [holes, List.cons_append, List.nil_append]; exact rfl) ?_
  refine zad ?_
  refine zan rfl rfl rfl (op_boxam 1 rfl (ev1 rfl) rfl) (by simp only [upd, za, zaa]; exact rfl) ?_
  refine zab rfl rfl rfl (zac (.inr rfl) (ev1 rfl)) ?_
  refine zaf ?_
  refine zae ?_
  refine zad ?_
  refine zab rfl rfl rfl (op_fa rfl fo44_0 (ev1 rfl)) ?_
  refine zab rfl rfl rfl (op_ldmv (R := [_, _, _]) rfl tb35 (ev1 rfl) rfl rfl rfl) ?_
  refine zab rfl rfl rfl (op_ldw rfl tb35 (ev1 rfl) rfl rfl) ?_
  refine zab rfl rfl rfl (zah [] [] [] rfl (ev1 rfl) (ec (ev1 rfl) (ec (ev1 rfl) en)) rfl rfl (idLess_d _ _) rfl rfl rfl rfl rfl rfl) ?_
  refine zab rfl rfl rfl (zac (.inr rfl) (ev1 rfl)) ?_
  refine zaf ?_
  refine dwp_ret ?_
  refine kend [0] (rs1 rfl (rv_t rfl)) rfl rfl ?_ ⟨rfl, trivial⟩
  rfl
set_option maxRecDepth 4000 in
set_option maxHeartbeats 1000000 in
theorem fold1_d (m : Mk) (t : Int) : DFun Try.prog 53 [.agg (mkC m), .loc 0 0] [.flat 33 [.int .u64 t]] (.val (.bool (decide (t < m.i.t)))) [.flat 33 [.int .u64 t]] := by
  refine zao (N := 9) 1 (by kernel_rfl) Try.func53 rfl rfl rfl (by simp only [fr0, Nat.zero_add, Nat.reduceAdd]; exact rfl) rfl fun s0 hs0 => ?_
  refine zae ?_
  refine zak 1 (by simp only [holes, List.cons_append, List.nil_append]; exact rfl) ?_
  refine zad ?_
  refine zan rfl rfl rfl (op_boxam 1 rfl (ev1 rfl) rfl) (by simp only [upd, za, zaa]; exact rfl) ?_
  refine zab rfl rfl rfl (zac (.inr rfl) (ev1 rfl)) ?_
  refine zaf ?_
  refine zae ?_
  refine zad ?_
  refine zab rfl rfl rfl (op_fa rfl fo44_0 (ev1 rfl)) ?_
  refine zab rfl rfl rfl (op_fa rfl fo35_0 (ev1 rfl)) ?_
  refine zab rfl rfl rfl (op_ldm rfl tb33 (ev1 rfl) rfl rfl) ?_
  refine zab rfl rfl rfl (op_ldo rfl tb33 (ev1 rfl) rfl rfl) ?_
  refine zab rfl rfl rfl (op_gtr rfl (ev1 rfl) (ev1 rfl)) ?_
  refine zab rfl rfl rfl (zac (.inr rfl) (ev1 rfl)) ?_
  refine zaf ?_
  refine dwp_ret ?_
  refine kend [0] (rs1 rfl (rv_t rfl)) rfl rfl ?_ ⟨rfl, trivial⟩
  rfl
set_option maxRecDepth 4000 in
set_option maxHeartbeats 1000000 in
theorem stayD_o (l : List Mk) (h : l.length ≤ 5000) (i : I3) : DFun Try.prog 41 [.slm 4 (l).length ((l).flatMap mkC), .fn (.func 52) [] [.loc 0 0]] [.flat 35 (idc i)] (.arr 1) [.flat 35 (idc i), .arx 44 4 ((l.filter (fun m : Mk => lessR m.i i))).length (((l.filter (fun m : Mk => lessR m.i i))).flatMap mkC)] := by
  refine zao (N := 23) 1 (by kernel_rfl) Try.func41 rfl rfl rfl (by simp only [fr0, Nat.zero_add, Nat.reduceAdd]; exact rfl) rfl fun s0 hs0 => ?_
  refine dwp_lenm (t := 0) rfl fun hl0 hL0 => ?_
  refine zae ?_
  refine zad ?_
  refine zab rfl rfl rfl (zac (.inr rfl) (ev1 rfl)) ?_
  refine zaf ?_
  refine zae ?_
  refine zad ?_
  refine zab rfl rfl rfl (zac (.inr rfl) (ev1 rfl)) ?_
  refine zaf ?_
  refine zae ?_
  refine zae ?_
  refine zad ?_
  refine zab rfl rfl rfl (zac (.inl rfl) (ev1 rfl)) ?_
  refine zab rfl rfl rfl (op_lenm rfl sl25 (ev1 rfl)) ?_
  refine zab rfl rfl rfl (zac (.inl rfl) (ev1 rfl)) ?_
  refine zaf ?_
  refine zam ?_
  refine dwp_adoptx 5 44 4 rfl rfl rfl ?_
  refine dwp_loopS ⟨hs0, rfl⟩ (α := Nat) (fun k => [(10, .val (.int .i64 (k : Int)))]) [(1, _), (5, _), (8, _), (9, _)] (fun k => [(1, .arx 44 4 (((l.take k).filter (fun m : Mk => lessR m.i i))).length ((((l.take k).filter (fun m : Mk => lessR m.i i))).flatMap mkC))]) [_, .hole] (fun k => k ≤ l.length) (fun k => l.length - k) 0 [0, 1] (Nat.zero_le _) rfl ⟨rfl, rfl, rfl, rfl, trivial⟩ ⟨rfl, trivial⟩ ⟨rfl, rfl, trivial⟩ ?_
  intro k hx
  simp only [upd, za, zaa, List.cons_append, List.nil_append]
  have hk := hx
  have htl : ((l.take k).filter (fun m : Mk => lessR m.i i)).length ≤ k := filt_tl
  refine zae ?_
  refine zad ?_
  refine zab rfl rfl rfl (op_lss rfl (ev1 rfl) (ev1 rfl)) ?_
  refine zaf ?_
  refine zae ?_
  refine dwp_cond rfl (fun c1 => ?_) (fun c1 => ?_)
  · try simp only [decide_eq_true_eq, decide_eq_false_iff_not, beq_iff_eq, bne_iff_ne, beq_eq_false_iff_ne, bne_eq_false_iff_eq, Bool.not_eq_true', Bool.not_eq_false', Bool.and_eq_true, Bool.or_eq_true, Bool.or_eq_false_iff, ne_eq, Decidable.not_not, Int.not_lt, Int.not_le] at c1
    refine zal ?_
    refine zae ?_
    refine zam ?_
    refine zae ?_
    refine zak 1 (by simp only [holes, List.cons_append, List.nil_append]; exact rfl) ?_
    refine zad ?_
    refine zab rfl rfl rfl (op_ixmr (k) (by decide) rfl sl25 (ev1 rfl) (ev1 rfl) (fun _ => rfl) (by omega) (fun _ => rfl)) ?_
    refine zab rfl rfl rfl (op_lddr rfl tb44 (ev1 rfl) rfl rfl) ?_
    refine zan rfl rfl rfl (op_alloc 2 rfl zr44 rfl) (by simp only [upd, za, zaa]; exact rfl) ?_
    refine walk_s rfl rfl (op_stam2 rfl tb44 (ev1 rfl) (ev1 rfl) rfl rfl rfl rfl) (by simp only [upd, za, zaa]; exact rfl) ?_
    refine zaf ?_
    refine zae ?_
    refine zad ?_
    refine zab rfl rfl rfl (zac (.inl rfl) (ev1 rfl)) ?_
    refine zab rfl rfl rfl (op_ldmw rfl tb44 (ev1 rfl) rfl rfl) ?_
    refine zan rfl rfl rfl (zah [0] [] [] rfl (ev1 rfl) (ec (ev1 rfl) en) rfl rfl (drop1_d l[k] i) rfl rfl rfl rfl rfl rfl) (by simp only [upd, za, zaa]; exact rfl) ?_
    refine zaf ?_
    refine dwp_cond rfl (fun c2 => ?_) (fun c2 => ?_)
    · have c3 : (fun m : Mk => lessR m.i i) l[k] = true := c2
      refine zak 1 (by simp only [holes, List.cons_append, List.nil_append]; exact rfl) ?_
      refine zad ?_
      refine zab rfl rfl rfl (zac (.inl rfl) (ev1 rfl)) ?_
      refine zab rfl rfl rfl (op_ldmw rfl tb44 (ev1 rfl) rfl rfl) ?_
      refine zab rfl rfl rfl (op_bsr (ps := [(0, .tmp 18)]) rfl sl25 zr44 rfl (ec (ev1 rfl) en) rfl rfl rfl (by rfl) rfl (by decide) (by decide)) ?_
      refine zan rfl rfl rfl (op_appr (j := 3) rfl sl25 zr44 rfl (ev1 rfl) (ev1 rfl) rfl rfl (rfl) (fun _ => ⟨by omega, by omega⟩)) (by simp only [upd, za, zaa]; exact rfl) ?_
      refine zab rfl rfl rfl (zac (.inr rfl) (ev1 rfl)) ?_
      refine zaf ?_
      refine zad ?_
      refine zab rfl rfl rfl (op_add' rfl (ev1 rfl) (ev1 rfl) (fun _ => IntWalk.i64_in _ (by omega))) ?_
      refine zab rfl rfl rfl (zac (.inl rfl) (ev1 rfl)) ?_
      refine zaf ?_
      refine ⟨k + 1, [0, 3], by omega, by simp only []; omega, rfl, ⟨rfl, rfl, rfl, rfl, rfl, trivial⟩, ⟨rfl, arxr_fits (by rw [filt_take (by omega), if_pos c3, List.length_append]; rfl) (by rw [filt_take (by omega), if_pos c3, List.flatMap_append]; rfl) (mk_nl _), trivial⟩⟩
    · have c3 : ¬ (fun m : Mk => lessR m.i i) l[k] = true := by rw [Bool.not_eq_true]; exact c2
      refine zal ?_
      refine zad ?_
      refine zab rfl rfl rfl (op_add' rfl (ev1 rfl) (ev1 rfl) (fun _ => IntWalk.i64_in _ (by omega))) ?_
      refine zab rfl rfl rfl (zac (.inl rfl) (ev1 rfl)) ?_
      refine zaf ?_
      refine ⟨k + 1, [0, 1], by omega, by simp only []; omega, rfl, ⟨rfl, rfl, rfl, rfl, rfl, trivial⟩, ⟨rfl, arxr_fits (by rw [filt_take (by omega), if_neg c3, List.append_nil]) (by rw [filt_take (by omega), if_neg c3, List.append_nil]) (mk_nl _), trivial⟩⟩
  · try simp only [decide_eq_true_eq, decide_eq_false_iff_not, beq_iff_eq, bne_iff_ne, beq_eq_false_iff_ne, bne_eq_false_iff_eq, Bool.not_eq_true', Bool.not_eq_false', Bool.and_eq_true, Bool.or_eq_true, Bool.or_eq_false_iff, ne_eq, Decidable.not_not, Int.not_lt, Int.not_le] at c1
    refine dwp_exit ?_
    refine zae ?_
    refine zad ?_
    refine zab rfl rfl rfl (zac (.inl rfl) (ev1 rfl)) ?_
    refine zab rfl rfl rfl (zac (.inr rfl) (ev1 rfl)) ?_
    refine zaf ?_
    refine dwp_ret ?_
    rw [List.take_of_length_le (by omega)]
    refine kend [0, 1] (rs1 rfl (rv_t rfl)) rfl rfl ?_ ⟨?_, ?_, trivial⟩
    rfl
    all_goals first | exact rfl | exact arxr_fits rfl rfl (mk_nl _)
set_option maxRecDepth 4000 in
set_option maxHeartbeats 1000000 in
theorem stayF_o (l : List Mk) (h : l.length ≤ 5000) (t : Int) : DFun Try.prog 41 [.slm 4 (l).length ((l).flatMap mkC), .fn (.func 53) [] [.loc 0 0]] [.flat 33 [.int .u64 t]] (.arr 1) [.flat 33 [.int .u64 t], .arx 44 4 ((l.filter (fun m : Mk => decide (t < m.i.t)))).length (((l.filter (fun m : Mk => decide (t < m.i.t)))).flatMap mkC)] := by
  refine zao (N := 23) 1 (by kernel_rfl) Try.func41 rfl rfl rfl (by simp only [fr0, Nat.zero_add, Nat.reduceAdd]; exact rfl) rfl fun s0 hs0 => ?_
  refine dwp_lenm (t := 0) rfl fun hl0 hL0 => ?_
  refine zae ?_
  refine zad ?_
  refine zab rfl rfl rfl (zac (.inr rfl) (ev1 rfl)) ?_
  refine zaf ?_
  refine zae ?_
  refine zad ?_
  refine zab rfl rfl rfl (zac (.inr rfl) (ev1 rfl)) ?_
  refine zaf ?_
  refine zae ?_
  refine zae ?_
  refine zad ?_
  refine zab rfl rfl rfl (zac (.inl rfl) (ev1 rfl)) ?_
  refine zab rfl rfl rfl (op_lenm rfl sl25 (ev1 rfl)) ?_
  refine zab rfl rfl rfl (zac (.inl rfl) (ev1 rfl)) ?_
  refine zaf ?_
  refine zam ?_
  refine dwp_adoptx 5 44 4 rfl rfl rfl ?_
  refine dwp_loopS ⟨hs0, rfl⟩ (α := Nat) (fun k => [(10, .val (.int .i64 (k : Int)))]) [(1, _), (5, _), (8, _), (9, _)] (fun k => [(1, .arx 44 4 (((l.take k).filter (fun m : Mk => decide (t < m.i.t)))).length ((((l.take k).filter (fun m : Mk => decide (t < m.i.t)))).flatMap mkC))]) [_, .hole] (fun k => k ≤ l.length) (fun k => l.length - k) 0 [0, 1] (Nat.zero_le _) rfl ⟨rfl, rfl, rfl, rfl, trivial⟩ ⟨rfl, trivial⟩ ⟨rfl, rfl, trivial⟩ ?_
  intro k hx
  simp only [upd, za, zaa, List.cons_append, List.nil_append]
  have hk := hx
  have htl : ((l.take k).filter (fun m : Mk => decide (t < m.i.t))).length ≤ k := filt_tl
  refine zae ?_
  refine zad ?_
  refine zab rfl rfl rfl (op_lss rfl (ev1 rfl) (ev1 rfl)) ?_
  refine zaf ?_
  refine zae ?_
  refine dwp_cond rfl (fun c1 => ?_) (fun c1 => ?_)
  · try simp only [decide_eq_true_eq, decide_eq_false_iff_not, beq_iff_eq, bne_iff_ne, beq_eq_false_iff_ne, bne_eq_false_iff_eq, Bool.not_eq_true', Bool.not_eq_false', Bool.and_eq_true, Bool.or_eq_true, Bool.or_eq_false_iff, ne_eq, Decidable.not_not, Int.not_lt, Int.not_le] at c1
    refine zal ?_
    refine zae ?_
    refine zam ?_
    refine zae ?_
    refine zak 1 (by simp only [holes, List.cons_append, List.nil_append]; exact rfl) ?_
    refine zad ?_
    refine zab rfl rfl rfl (op_ixmr (k) (by decide) rfl sl25 (ev1 rfl) (ev1 rfl) (fun _ => rfl) (by omega) (fun _ => rfl)) ?_
    refine zab rfl rfl rfl (op_lddr rfl tb44 (ev1 rfl) rfl rfl) ?_
    refine zan rfl rfl rfl (op_alloc 2 rfl zr44 rfl) (by simp only [upd, za, zaa]; exact rfl) ?_
    refine walk_s rfl rfl (op_stam2 rfl tb44 (ev1 rfl) (ev1 rfl) rfl rfl rfl rfl) (by simp only [upd, za, zaa]; exact rfl) ?_
    refine zaf ?_
    refine zae ?_
    refine zad ?_
    refine zab rfl rfl rfl (zac (.inl rfl) (ev1 rfl)) ?_
    refine zab rfl rfl rfl (op_ldmw rfl tb44 (ev1 rfl) rfl rfl) ?_
    refine zan rfl rfl rfl (zah [0] [] [] rfl (ev1 rfl) (ec (ev1 rfl) en) rfl rfl (fold1_d l[k] t) rfl rfl rfl rfl rfl rfl) (by simp only [upd, za, zaa]; exact rfl) ?_
    refine zaf ?_
    refine dwp_cond rfl (fun c2 => ?_) (fun c2 => ?_)
    · have c3 : (fun m : Mk => decide (t < m.i.t)) l[k] = true := c2
      refine zak 1 (by simp only [holes, List.cons_append, List.nil_append]; exact rfl) ?_
      refine zad ?_
      refine zab rfl rfl rfl (zac (.inl rfl) (ev1 rfl)) ?_
      refine zab rfl rfl rfl (op_ldmw rfl tb44 (ev1 rfl) rfl rfl) ?_
      refine zab rfl rfl rfl (op_bsr (ps := [(0, .tmp 18)]) rfl sl25 zr44 rfl (ec (ev1 rfl) en) rfl rfl rfl (by rfl) rfl (by decide) (by decide)) ?_
      refine zan rfl rfl rfl (op_appr (j := 3) rfl sl25 zr44 rfl (ev1 rfl) (ev1 rfl) rfl rfl (rfl) (fun _ => ⟨by omega, by omega⟩)) (by simp only [upd, za, zaa]; exact rfl) ?_
      refine zab rfl rfl rfl (zac (.inr rfl) (ev1 rfl)) ?_
      refine zaf ?_
      refine zad ?_
      refine zab rfl rfl rfl (op_add' rfl (ev1 rfl) (ev1 rfl) (fun _ => IntWalk.i64_in _ (by omega))) ?_
      refine zab rfl rfl rfl (zac (.inl rfl) (ev1 rfl)) ?_
      refine zaf ?_
      refine ⟨k + 1, [0, 3], by omega, by simp only []; omega, rfl, ⟨rfl, rfl, rfl, rfl, rfl, trivial⟩, ⟨rfl, arxr_fits (by rw [filt_take (by omega), if_pos c3, List.length_append]; rfl) (by rw [filt_take (by omega), if_pos c3, List.flatMap_append]; rfl) (mk_nl _), trivial⟩⟩
    · have c3 : ¬ (fun m : Mk => decide (t < m.i.t)) l[k] = true := by rw [Bool.not_eq_true]; exact c2
      refine zal ?_
      refine zad ?_
      refine zab rfl rfl rfl (op_add' rfl (ev1 rfl) (ev1 rfl) (fun _ => IntWalk.i64_in _ (by omega))) ?_
      refine zab rfl rfl rfl (zac (.inl rfl) (ev1 rfl)) ?_
      refine zaf ?_
      refine ⟨k + 1, [0, 1], by omega, by simp only []; omega, rfl, ⟨rfl, rfl, rfl, rfl, rfl, trivial⟩, ⟨rfl, arxr_fits (by rw [filt_take (by omega), if_neg c3, List.append_nil]) (by rw [filt_take (by omega), if_neg c3, List.append_nil]) (mk_nl _), trivial⟩⟩
  · try simp only [decide_eq_true_eq, decide_eq_false_iff_not, beq_iff_eq, bne_iff_ne, beq_eq_false_iff_ne, bne_eq_false_iff_eq, Bool.not_eq_true', Bool.not_eq_false', Bool.and_eq_true, Bool.or_eq_true, Bool.or_eq_false_iff, ne_eq, Decidable.not_not, Int.not_lt, Int.not_le] at c1
    refine dwp_exit ?_
    refine zae ?_
    refine zad ?_
    refine zab rfl rfl rfl (zac (.inl rfl) (ev1 rfl)) ?_
    refine zab rfl rfl rfl (zac (.inr rfl) (ev1 rfl)) ?_
    refine zaf ?_
    refine dwp_ret ?_
    rw [List.take_of_length_le (by omega)]
    refine kend [0, 1] (rs1 rfl (rv_t rfl)) rfl rfl ?_ ⟨?_, ?_, trivial⟩
    rfl
    all_goals first | exact rfl | exact arxr_fits rfl rfl (mk_nl _)
def dropM (l : List Mk) (i : I3) : List Mk := if chkM l = true then l.filter (fun m : Mk => lessR m.i i) else []
def foldM (l : List Mk) (t : Int) : List Mk := if chkM l = true then l.filter (fun m : Mk => decide (t < m.i.t)) else []
set_option maxRecDepth 4000 in
set_option maxHeartbeats 1000000 in
theorem drop_y (l : List Mk) (h : l.length ≤ 5000) (i : I3) (hc : chkM l = true) : DFun Try.prog 22 [.slm 4 (l).length ((l).flatMap mkC), .val (.agg (idc i).toArray)] [] (.arr 0) [.arx 44 4 ((l.filter (fun m : Mk => lessR m.i i))).length (((l.filter (fun m : Mk => lessR m.i i))).flatMap mkC)] := by
  refine zao (N := 11) 0 (by kernel_rfl) Try.func22 rfl rfl rfl (by simp only [fr0, Nat.zero_add, Nat.reduceAdd]; exact rfl) rfl fun s0 hs0 => ?_
  refine dwp_lenm (t := 0) rfl fun hl0 hL0 => ?_
  refine zae ?_
  refine zak 1 (by simp only [holes, List.cons_append, List.nil_append]; exact rfl) ?_
  refine zad ?_
  refine zan rfl rfl rfl (op_boxa 0 rfl (ev1 rfl) rfl) (by simp only [upd, za, zaa]; exact rfl) ?_
  refine zab rfl rfl rfl (zac (.inr rfl) (ev1 rfl)) ?_
  refine zaf ?_
  refine zae ?_
  refine zae ?_
  refine zad ?_
  refine zab rfl rfl rfl (zac (.inl rfl) (ev1 rfl)) ?_
  refine zab rfl rfl rfl (zah [] [] [] rfl (ev1 rfl) (ec (ev1 rfl) en) rfl rfl (mcheck_d _ (by omega)) rfl rfl rfl rfl rfl rfl) ?_
  refine zab rfl rfl rfl (op_neq rfl (ev1 rfl) (ev1 rfl)) ?_
  refine zaf ?_
  refine dwp_if_f rfl (by rw [hc]; rfl) ?_
  refine zal ?_
  refine zae ?_
  refine zak 1 (by simp only [holes, List.cons_append, List.nil_append]; exact rfl) ?_
  refine zad ?_
  refine zab rfl rfl rfl (zac (.inl rfl) (ev1 rfl)) ?_
  refine zab rfl rfl rfl (op_mkf rfl en (ec (ev1 rfl) en)) ?_
  refine zan rfl rfl rfl (zah [0] [] [1] rfl (ev1 rfl) (ec (ev1 rfl) (ec (ev1 rfl) en)) rfl rfl (stayD_o l h i) rfl rfl rfl (by exact (wrc rfl (wrc (sb_arxr (mk_nl _)) rfl))) rfl rfl) (by simp only [upd, za, zaa]; exact rfl) ?_
  refine zab rfl rfl rfl (zac (.inr rfl) (ev1 rfl)) ?_
  refine zaf ?_
  refine dwp_ret ?_
  refine kend [1] (rs1 rfl (rv_t rfl)) rfl rfl ?_ ⟨?_, trivial⟩
  rfl
  all_goals first | exact rfl | exact arxr_fits rfl rfl (mk_nl _)
set_option maxRecDepth 4000 in
set_option maxHeartbeats 1000000 in
theorem drop_v (l : List Mk) (h : l.length ≤ 5000) (i : I3) (hc : chkM l = false) : DFun Try.prog 22 [.slm 4 (l).length ((l).flatMap mkC), .val (.agg (idc i).toArray)] [] (.val (.slice none 0 0)) [] := by
  refine zao (N := 11) 0 (by kernel_rfl) Try.func22 rfl rfl rfl (by simp only [fr0, Nat.zero_add, Nat.reduceAdd]; exact rfl) rfl fun s0 hs0 => ?_
  refine dwp_lenm (t := 0) rfl fun hl0 hL0 => ?_
  refine zae ?_
  refine zak 1 (by simp only [holes, List.cons_append, List.nil_append]; exact rfl) ?_
  refine zad ?_
  refine zan rfl rfl rfl (op_boxa 0 rfl (ev1 rfl) rfl) (by simp only [upd, za, zaa]; exact rfl) ?_
  refine zab rfl rfl rfl (zac (.inr rfl) (ev1 rfl)) ?_
  refine zaf ?_
  refine zae ?_
  refine zae ?_
  refine zad ?_
  refine zab rfl rfl rfl (zac (.inl rfl) (ev1 rfl)) ?_
  refine zab rfl rfl rfl (zah [] [] [] rfl (ev1 rfl) (ec (ev1 rfl) en) rfl rfl (mcheck_d _ (by omega)) rfl rfl rfl rfl rfl rfl) ?_
  refine zab rfl rfl rfl (op_neq rfl (ev1 rfl) (ev1 rfl)) ?_
  refine zaf ?_
  refine dwp_if_t rfl (by rw [hc]; rfl) ?_
  refine zae ?_
  refine zad ?_
  refine zab rfl rfl rfl (zac (.inr rfl) (ev1 rfl)) ?_
  refine zaf ?_
  refine dwp_ret ?_
  refine kend0 (rs1 rfl (rv_t rfl)) rfl ?_
  rfl
theorem drop_d (l : List Mk) (h : l.length ≤ 5000) (i : I3) : DFun Try.prog 22 [.slm 4 (l).length ((l).flatMap mkC), .val (.agg (idc i).toArray)] [] (.slm 4 (dropM l i).length ((dropM l i).flatMap mkC)) [] := by
  unfold dropM
  cases hc : chkM l
  · exact (drop_v l h i hc).wk (Wk.slm0 4)
  · exact freeze (drop_y l h i hc) (vw_arrV rfl rfl rfl (mk_nl _))
set_option maxRecDepth 4000 in
set_option maxHeartbeats 1000000 in
theorem fold_y (l : List Mk) (h : l.length ≤ 5000) (t : Int) (hc : chkM l = true) : DFun Try.prog 23 [.slm 4 (l).length ((l).flatMap mkC), .val (.int .u64 t)] [] (.arr 0) [.arx 44 4 ((l.filter (fun m : Mk => decide (t < m.i.t)))).length (((l.filter (fun m : Mk => decide (t < m.i.t)))).flatMap mkC)] := by
  refine zao (N := 11) 0 (by kernel_rfl) Try.func23 rfl rfl rfl (by simp only [fr0, Nat.zero_add, Nat.reduceAdd]; exact rfl) rfl fun s0 hs0 => ?_
  refine dwp_lenm (t := 0) rfl fun hl0 hL0 => ?_
  refine zae ?_
  refine zak 1 (by simp only [holes, List.cons_append, List.nil_append]; exact rfl) ?_
  refine zad ?_
  refine zan rfl rfl rfl (op_boxi 0 rfl (ev1 rfl) rfl) (by simp only [upd, za, zaa]; exact rfl) ?_
  refine zab rfl rfl rfl (zac (.inr rfl) (ev1 rfl)) ?_
  refine zaf ?_
  refine zae ?_
  refine zae ?_
  refine zad ?_
  refine zab rfl rfl rfl (zac (.inl rfl) (ev1 rfl)) ?_
  refine zab rfl rfl rfl (zah [] [] [] rfl (ev1 rfl) (ec (ev1 rfl) en) rfl rfl (mcheck_d _ (by omega)) rfl rfl rfl rfl rfl rfl) ?_
  refine zab rfl rfl rfl (op_neq rfl (ev1 rfl) (ev1 rfl)) ?_
  refine zaf ?_
  refine dwp_if_f rfl (by rw [hc]; rfl) ?_
  refine zal ?_
  refine zae ?_
  refine zak 1 (by simp only [holes, List.cons_append, List.nil_append]; exact rfl) ?_
  refine zad ?_
  refine zab rfl rfl rfl (zac (.inl rfl) (ev1 rfl)) ?_
  refine zab rfl rfl rfl (op_mkf rfl en (ec (ev1 rfl) en)) ?_
  refine zan rfl rfl rfl (zah [0] [] [1] rfl (ev1 rfl) (ec (ev1 rfl) (ec (ev1 rfl) en)) rfl rfl (stayF_o l h t) rfl rfl rfl (by exact (wrc rfl (wrc (sb_arxr (mk_nl _)) rfl))) rfl rfl) (by simp only [upd, za, zaa]; exact rfl) ?_
  refine zab rfl rfl rfl (zac (.inr rfl) (ev1 rfl)) ?_
  refine zaf ?_
  refine dwp_ret ?_
  refine kend [1] (rs1 rfl (rv_t rfl)) rfl rfl ?_ ⟨?_, trivial⟩
  rfl
  all_goals first | exact rfl | exact arxr_fits rfl rfl (mk_nl _)
set_option maxRecDepth 4000 in
set_option maxHeartbeats 1000000 in
theorem fold_v (l : List Mk) (h : l.length ≤ 5000) (t : Int) (hc : chkM l = false) : DFun Try.prog 23 [.slm 4 (l).length ((l).flatMap mkC), .val (.int .u64 t)] [] (.val (.slice none 0 0)) [] := by
  refine zao (N := 11) 0 (by kernel_rfl) Try.func23 rfl rfl rfl (by simp only [fr0, Nat.zero_add, Nat.reduceAdd]; exact rfl) rfl fun s0 hs0 => ?_
  refine dwp_lenm (t := 0) rfl fun hl0 hL0 => ?_
  refine zae ?_
  refine zak 1 (by simp only [holes, List.cons_append, List.nil_append]; exact rfl) ?_
  refine zad ?_
  refine zan rfl rfl rfl (op_boxi 0 rfl (ev1 rfl) rfl) (by simp only [upd, za, zaa]; exact rfl) ?_
  refine zab rfl rfl rfl (zac (.inr rfl) (ev1 rfl)) ?_
  refine zaf ?_
  refine zae ?_
  refine zae ?_
  refine zad ?_
  refine zab rfl rfl rfl (zac (.inl rfl) (ev1 rfl)) ?_
  refine zab rfl rfl rfl (zah [] [] [] rfl (ev1 rfl) (ec (ev1 rfl) en) rfl rfl (mcheck_d _ (by omega)) rfl rfl rfl rfl rfl rfl) ?_
  refine zab rfl rfl rfl (op_neq rfl (ev1 rfl) (ev1 rfl)) ?_
  refine zaf ?_
  refine dwp_if_t rfl (by rw [hc]; rfl) ?_
  refine zae ?_
  refine zad ?_
  refine zab rfl rfl rfl (zac (.inr rfl) (ev1 rfl)) ?_
  refine zaf ?_
  refine dwp_ret ?_
  refine kend0 (rs1 rfl (rv_t rfl)) rfl ?_
  rfl
theorem fold_d (l : List Mk) (h : l.length ≤ 5000) (t : Int) : DFun Try.prog 23 [.slm 4 (l).length ((l).flatMap mkC), .val (.int .u64 t)] [] (.slm 4 (foldM l t).length ((foldM l t).flatMap mkC)) [] := by
  unfold foldM
  cases hc : chkM l
  · exact (fold_v l h t hc).wk (Wk.slm0 4)
  · exact freeze (fold_y l h t hc) (vw_arrV rfl rfl rfl (mk_nl _))
end Go.Proofs.Ytmpodnadoebclaa
namespace Go.Proofs.Ytmpodnadoebclaa
set_option maxRecDepth 4000
set_option linter.unusedVariables false
set_option linter.unusedSimpArgs false
open Go.RowKit
theorem fl44 : fdL Try.prog 44 = some [(0, 3), (3, 1)] := by kernel_rfl
theorem tb26 : tyB Try.prog 26 = some (false, 1) := by kernel_rfl
set_option maxRecDepth 4000 in
set_option maxHeartbeats 1000000 in
theorem told_d (l : List Mk) : DFun Try.prog 51 [.slm 4 (l).length ((l).flatMap mkC)] [] (.fn (.func 78) [] [.loc 0 0]) [.mix 26 [.slm 4 (l).length ((l).flatMap mkC)]] := by
  refine zao (N := 4) 0 (by kernel_rfl) Try.func51 rfl rfl rfl (by simp only [fr0, Nat.zero_add, Nat.reduceAdd]; exact rfl) rfl fun s0 hs0 => ?_
  refine dwp_lenm (t := 0) rfl fun hl0 hL0 => ?_
  refine zae ?_
  refine zak 1 (by simp only [holes, List.cons_append, List.nil_append]; exact rfl) ?_
  refine zad ?_
  refine zan rfl rfl rfl (op_boxm 0 rfl (ev1 rfl) (fun s v h => by cases h <;> rfl) rfl) (by simp only [upd, za, zaa]; exact rfl) ?_
  refine zab rfl rfl rfl (zac (.inr rfl) (ev1 rfl)) ?_
  refine zaf ?_
  refine zae ?_
  refine zad ?_
  refine zab rfl rfl rfl (op_mkf rfl en (ec (ev1 rfl) en)) ?_
  refine zab rfl rfl rfl (zac (.inr rfl) (ev1 rfl)) ?_
  refine zaf ?_
  refine dwp_ret ?_
  refine kend [0] (rs1 rfl (rv_t rfl)) rfl rfl ?_ ⟨rfl, trivial⟩
  rfl
theorem gM {l : List Mk} {k : Nat} (h : k < l.length) : l.getD k zMk = l[k] := by rw [List.getD_eq_getElem?_getD, List.getElem?_eq_getElem h]; rfl
def bN (l : List Mk) (i : I3) : Nat := (l.takeWhile fun m => lessR m.i i).length
theorem bN_le (l : List Mk) (i : I3) : bN l i ≤ l.length := (List.takeWhile_sublist _).length_le
theorem tw_stop {α : Type} {q : α → Bool} : ∀ {l : List α} {k : Nat} (hk : k < l.length), (l.take k).all q = true → q l[k] = false → l.takeWhile q = l.take k
  | [], k, hk, _, _ => by simp at hk
  | a :: l, 0, _, _, h => by rw [List.takeWhile_cons]; rw [List.getElem_cons_zero] at h; rw [h]; rfl
  | a :: l, k + 1, hk, h1, h2 => by
    rw [List.take_succ_cons, List.all_cons, Bool.and_eq_true] at h1
    rw [List.takeWhile_cons, h1.1, List.take_succ_cons]
    rw [List.getElem_cons_succ] at h2
    simp only [if_true]
    rw [tw_stop (by simpa using hk) h1.2 h2]
theorem tw_all {α : Type} {q : α → Bool} {l : List α} (h : l.all q = true) : l.takeWhile q = l := by
  induction l with
  | nil => rfl
  | cons a l ih =>
    rw [List.all_cons, Bool.and_eq_true] at h
    rw [List.takeWhile_cons, h.1, ih h.2]; rfl
theorem bN_stop {l : List Mk} {i : I3} {k : Nat} (hk : k < l.length) (h1 : (l.take k).all (fun m => lessR m.i i) = true) (h2 : lessR l[k].i i = false) : bN l i = k := by
  unfold bN
  rw [tw_stop hk h1 h2, List.length_take]; omega
theorem bN_all {l : List Mk} {i : I3} (h1 : l.all (fun m => lessR m.i i) = true) : bN l i = l.length := by unfold bN; rw [tw_all h1]
theorem all_no {α : Type} {q : α → Bool} {l : List α} {k : Nat} (hk : k < l.length) (h : q l[k] = false) : l.all q = false := by
  rw [List.all_eq_false]
  exact ⟨_, List.getElem_mem hk, by rw [h]; decide⟩
theorem all_take {α : Type} {q : α → Bool} {l : List α} {k : Nat} (hk : k < l.length) (h1 : (l.take k).all q = true) (h : q l[k] = true) : (l.take (k + 1)).all q = true := by
  rw [List.take_succ_eq_append_getElem hk, List.all_append, h1, Bool.true_and, List.all_cons, h]; rfl
noncomputable def belA : Code := rfA (pth [1, 0, 1, 1, 0, 1, 0] (bodyOf Try.f21))
noncomputable def belB : Code := rfB (pth [1, 0, 1, 1, 0, 1, 0] (bodyOf Try.f21))
set_option maxRecDepth 4000 in
set_option maxHeartbeats 1000000 in
theorem belR_true0 (i : I3) (m : Mk) (at_ : Int) (h1 : lessR m.i i = true) : DRound Try.prog 0 [.val (.int .i64 at_), .agg (mkC m)] [.lp 23 [(3, .loc 1 0), (6, .loc 2 0), (7, .loc 3 0)] #[13, 14] belA belB .ready none, .flat 35 (idc i), .mix 44 ([.val (.int .u64 0), .val (.int .i64 0), .val (.int .u64 0), .val (.pointer none)]), .flat 4 [.bool false]] true [.lp 23 [(3, .loc 1 0), (6, .loc 2 0), (7, .loc 3 0)] #[13, 14] belA belB .ready none, .flat 35 (idc i), .mix 44 (mkC m), .flat 4 [.bool true]] := by
  refine dround_go 4 rfl rfl (by simp) rfl rfl fun s0 hs0 => ?_
  refine zak 1 (by simp only [holes, List.cons_append, List.nil_append]; exact rfl) ?_
  refine zad ?_
  refine zan rfl rfl rfl (op_alloc 4 rfl zr44 rfl) (by simp only [upd, za, zaa]; exact rfl) ?_
  refine walk_s rfl rfl (op_stam2 rfl tb44 (ev1 rfl) (ev1 rfl) rfl rfl rfl rfl) (by simp only [upd, za, zaa]; exact rfl) ?_
  refine zaf ?_
  refine ⟨rfl, ?_⟩
  simp only [za, zaa]
  refine zam ?_
  refine zae ?_
  refine zae ?_
  refine zad ?_
  refine zab rfl rfl rfl (op_fa rfl fo44_0 (ev1 rfl)) ?_
  refine zab rfl rfl rfl (op_ldmv (R := [_, _, _]) rfl tb35 (ev1 rfl) rfl rfl rfl) ?_
  refine zab rfl rfl rfl (op_ldw rfl tb35 (ev1 rfl) rfl rfl) ?_
  refine zab rfl rfl rfl (zah [] [] [] rfl (ev1 rfl) (ec (ev1 rfl) (ec (ev1 rfl) en)) rfl rfl (idLess_d _ _) rfl rfl rfl rfl rfl rfl) ?_
  refine zab rfl rfl rfl (op_not rfl (ev1 rfl)) ?_
  refine zaf ?_
  refine dwp_if_f rfl (by rw [h1]; rfl) ?_
  refine zal ?_
  refine zad ?_
  refine zab rfl rfl rfl (op_ldmw rfl tb44 (ev1 rfl) rfl rfl) ?_
  refine walk_s rfl rfl (op_stmw2 rfl tb44 (ev1 rfl) (ev1 rfl) rfl rfl rfl rfl) (by simp only [upd, za, zaa]; exact rfl) ?_
  refine walk_s rfl rfl (op_stwb rfl tb4 (ev1 rfl) (ev1 rfl) rfl) (by simp only [upd, za, zaa]; exact rfl) ?_
  refine zaf ?_
  refine ⟨by first | rfl | assumption | simp_all, rfl, [0, 1, 2, 3], rfl, ⟨rfl, rfl, rfl, rfl, trivial⟩⟩
set_option maxRecDepth 4000 in
set_option maxHeartbeats 1000000 in
theorem belR_false0 (i : I3) (m : Mk) (at_ : Int) (h1 : lessR m.i i = false) : DRound Try.prog 0 [.val (.int .i64 at_), .agg (mkC m)] [.lp 23 [(3, .loc 1 0), (6, .loc 2 0), (7, .loc 3 0)] #[13, 14] belA belB .ready none, .flat 35 (idc i), .mix 44 ([.val (.int .u64 0), .val (.int .i64 0), .val (.int .u64 0), .val (.pointer none)]), .flat 4 [.bool false]] false [.lp 23 [(3, .loc 1 0), (6, .loc 2 0), (7, .loc 3 0)] #[13, 14] belA belB .done (some (.exit 0)), .flat 35 (idc i), .mix 44 ([.val (.int .u64 0), .val (.int .i64 0), .val (.int .u64 0), .val (.pointer none)]), .flat 4 [.bool false]] := by
  refine dround_go 4 rfl rfl (by simp) rfl rfl fun s0 hs0 => ?_
  refine zak 1 (by simp only [holes, List.cons_append, List.nil_append]; exact rfl) ?_
  refine zad ?_
  refine zan rfl rfl rfl (op_alloc 4 rfl zr44 rfl) (by simp only [upd, za, zaa]; exact rfl) ?_
  refine walk_s rfl rfl (op_stam2 rfl tb44 (ev1 rfl) (ev1 rfl) rfl rfl rfl rfl) (by simp only [upd, za, zaa]; exact rfl) ?_
  refine zaf ?_
  refine ⟨rfl, ?_⟩
  simp only [za, zaa]
  refine zam ?_
  refine zae ?_
  refine zae ?_
  refine zad ?_
  refine zab rfl rfl rfl (op_fa rfl fo44_0 (ev1 rfl)) ?_
  refine zab rfl rfl rfl (op_ldmv (R := [_, _, _]) rfl tb35 (ev1 rfl) rfl rfl rfl) ?_
  refine zab rfl rfl rfl (op_ldw rfl tb35 (ev1 rfl) rfl rfl) ?_
  refine zab rfl rfl rfl (zah [] [] [] rfl (ev1 rfl) (ec (ev1 rfl) (ec (ev1 rfl) en)) rfl rfl (idLess_d _ _) rfl rfl rfl rfl rfl rfl) ?_
  refine zab rfl rfl rfl (op_not rfl (ev1 rfl)) ?_
  refine zaf ?_
  refine dwp_if_t rfl (by rw [h1]; rfl) ?_
  refine dwp_exit ?_
  refine ⟨by first | rfl | assumption | simp_all, rfl, [0, 1, 2, 3], rfl, ⟨rfl, rfl, rfl, rfl, trivial⟩⟩
set_option maxRecDepth 4000 in
set_option maxHeartbeats 1000000 in
theorem belR_true1 (i : I3) (m : Mk) (at_ : Int) (m0 : Mk) (h1 : lessR m.i i = true) : DRound Try.prog 0 [.val (.int .i64 at_), .agg (mkC m)] [.lp 23 [(3, .loc 1 0), (6, .loc 2 0), (7, .loc 3 0)] #[13, 14] belA belB .ready none, .flat 35 (idc i), .mix 44 (mkC m0), .flat 4 [.bool true]] true [.lp 23 [(3, .loc 1 0), (6, .loc 2 0), (7, .loc 3 0)] #[13, 14] belA belB .ready none, .flat 35 (idc i), .mix 44 (mkC m), .flat 4 [.bool true]] := by
  refine dround_go 4 rfl rfl (by simp) rfl rfl fun s0 hs0 => ?_
  refine zak 1 (by simp only [holes, List.cons_append, List.nil_append]; exact rfl) ?_
  refine zad ?_
  refine zan rfl rfl rfl (op_alloc 4 rfl zr44 rfl) (by simp only [upd, za, zaa]; exact rfl) ?_
  refine walk_s rfl rfl (op_stam2 rfl tb44 (ev1 rfl) (ev1 rfl) rfl rfl rfl rfl) (by simp only [upd, za, zaa]; exact rfl) ?_
  refine zaf ?_
  refine ⟨rfl, ?_⟩
  simp only [za, zaa]
  refine zam ?_
  refine zae ?_
  refine zae ?_
  refine zad ?_
  refine zab rfl rfl rfl (op_fa rfl fo44_0 (ev1 rfl)) ?_
  refine zab rfl rfl rfl (op_ldmv (R := [_, _, _]) rfl tb35 (ev1 rfl) rfl rfl rfl) ?_
  refine zab rfl rfl rfl (op_ldw rfl tb35 (ev1 rfl) rfl rfl) ?_
  refine zab rfl rfl rfl (zah [] [] [] rfl (ev1 rfl) (ec (ev1 rfl) (ec (ev1 rfl) en)) rfl rfl (idLess_d _ _) rfl rfl rfl rfl rfl rfl) ?_
  refine zab rfl rfl rfl (op_not rfl (ev1 rfl)) ?_
  refine zaf ?_
  refine dwp_if_f rfl (by rw [h1]; rfl) ?_
  refine zal ?_
  refine zad ?_
  refine zab rfl rfl rfl (op_ldmw rfl tb44 (ev1 rfl) rfl rfl) ?_
  refine walk_s rfl rfl (op_stmw2 rfl tb44 (ev1 rfl) (ev1 rfl) rfl rfl rfl rfl) (by simp only [upd, za, zaa]; exact rfl) ?_
  refine walk_s rfl rfl (op_stwb rfl tb4 (ev1 rfl) (ev1 rfl) rfl) (by simp only [upd, za, zaa]; exact rfl) ?_
  refine zaf ?_
  refine ⟨by first | rfl | assumption | simp_all, rfl, [0, 1, 2, 3], rfl, ⟨rfl, rfl, rfl, rfl, trivial⟩⟩
set_option maxRecDepth 4000 in
set_option maxHeartbeats 1000000 in
theorem belR_false1 (i : I3) (m : Mk) (at_ : Int) (m0 : Mk) (h1 : lessR m.i i = false) : DRound Try.prog 0 [.val (.int .i64 at_), .agg (mkC m)] [.lp 23 [(3, .loc 1 0), (6, .loc 2 0), (7, .loc 3 0)] #[13, 14] belA belB .ready none, .flat 35 (idc i), .mix 44 (mkC m0), .flat 4 [.bool true]] false [.lp 23 [(3, .loc 1 0), (6, .loc 2 0), (7, .loc 3 0)] #[13, 14] belA belB .done (some (.exit 0)), .flat 35 (idc i), .mix 44 (mkC m0), .flat 4 [.bool true]] := by
  refine dround_go 4 rfl rfl (by simp) rfl rfl fun s0 hs0 => ?_
  refine zak 1 (by simp only [holes, List.cons_append, List.nil_append]; exact rfl) ?_
  refine zad ?_
  refine zan rfl rfl rfl (op_alloc 4 rfl zr44 rfl) (by simp only [upd, za, zaa]; exact rfl) ?_
  refine walk_s rfl rfl (op_stam2 rfl tb44 (ev1 rfl) (ev1 rfl) rfl rfl rfl rfl) (by simp only [upd, za, zaa]; exact rfl) ?_
  refine zaf ?_
  refine ⟨rfl, ?_⟩
  simp only [za, zaa]
  refine zam ?_
  refine zae ?_
  refine zae ?_
  refine zad ?_
  refine zab rfl rfl rfl (op_fa rfl fo44_0 (ev1 rfl)) ?_
  refine zab rfl rfl rfl (op_ldmv (R := [_, _, _]) rfl tb35 (ev1 rfl) rfl rfl rfl) ?_
  refine zab rfl rfl rfl (op_ldw rfl tb35 (ev1 rfl) rfl rfl) ?_
  refine zab rfl rfl rfl (zah [] [] [] rfl (ev1 rfl) (ec (ev1 rfl) (ec (ev1 rfl) en)) rfl rfl (idLess_d _ _) rfl rfl rfl rfl rfl rfl) ?_
  refine zab rfl rfl rfl (op_not rfl (ev1 rfl)) ?_
  refine zaf ?_
  refine dwp_if_t rfl (by rw [h1]; rfl) ?_
  refine dwp_exit ?_
  refine ⟨by first | rfl | assumption | simp_all, rfl, [0, 1, 2, 3], rfl, ⟨rfl, rfl, rfl, rfl, trivial⟩⟩
theorem all_empty {α : Type} {q : α → Bool} {l : List α} (h : l.length ≤ 0) : l.all q = true := by
  have e : l = [] := List.eq_nil_of_length_eq_zero (by omega)
  rw [e]; rfl
theorem bN_first {l : List Mk} {i : I3} (h0 : 0 < l.length) (hn : 0 < bN l i) : lessR l[0].i i = true := by
  cases h : lessR l[0].i i with
  | true => rfl
  | false => rw [bN_stop h0 (by simp) h] at hn; omega
theorem bN_zero {l : List Mk} {i : I3} (h0 : 0 < l.length) (hn : bN l i = 0) : lessR l[0].i i = false := by
  cases h : lessR l[0].i i with
  | false => rfl
  | true =>
    unfold bN at hn
    cases l with
    | nil => simp at h0
    | cons a l => rw [List.takeWhile_cons, show lessR a.i i = true from h] at hn; simp at hn
set_option maxRecDepth 4000 in
set_option maxHeartbeats 1000000 in
theorem told_bel0 (l : List Mk) (h : l.length ≤ 5000) (i : I3) (hc : chkM l = true) (hn : bN l i = 0) : DFun Try.prog 78 [.yld 0, .loc 4 0] [.lp 23 [(3, .loc 1 0), (6, .loc 2 0), (7, .loc 3 0)] #[13, 14] belA belB .ready none, .flat 35 (idc i), .mix 44 ([.val (.int .u64 0), .val (.int .i64 0), .val (.int .u64 0), .val (.pointer none)]), .flat 4 [.bool false], .mix 26 [.slm 4 (l).length ((l).flatMap mkC)]] (.tup []) [.lp 23 [(3, .loc 1 0), (6, .loc 2 0), (7, .loc 3 0)] #[13, 14] belA belB (rst (l.all (fun m : Mk => lessR m.i i))) (rpe (.exit 0) (l.all (fun m : Mk => lessR m.i i))), .flat 35 (idc i), .mix 44 ([.val (.int .u64 0), .val (.int .i64 0), .val (.int .u64 0), .val (.pointer none)]), .flat 4 [.bool false], .mix 26 [.slm 4 (l).length ((l).flatMap mkC)]] := by
  refine zao (N := 21) 5 (by kernel_rfl) Try.func78 rfl rfl rfl (by simp only [fr0, Nat.zero_add, Nat.reduceAdd]; exact rfl) rfl fun s0 hs0 => ?_
  refine zae ?_
  refine zae ?_
  refine zad ?_
  refine zab rfl rfl rfl (op_ldm rfl tb26 (ev1 rfl) rfl rfl) ?_
  refine zab rfl rfl rfl (zah [] [] [] rfl (ev1 rfl) (ec (ev1 rfl) en) rfl rfl (mcheck_d _ (by omega)) rfl rfl rfl rfl rfl rfl) ?_
  refine zab rfl rfl rfl (op_neq rfl (ev1 rfl) (ev1 rfl)) ?_
  refine zaf ?_
  refine dwp_if_f rfl (by rw [hc]; rfl) ?_
  refine zal ?_
  refine zae ?_
  refine zad ?_
  refine zab rfl rfl rfl (op_ldm rfl tb26 (ev1 rfl) rfl rfl) ?_
  refine zab rfl rfl rfl (op_lenm rfl sl26 (ev1 rfl)) ?_
  refine zab rfl rfl rfl (zac (.inl rfl) (ev1 rfl)) ?_
  refine zaf ?_
  refine zam ?_
  refine dwp_once ?_
  refine zae ?_
  refine zad ?_
  refine zab rfl rfl rfl (op_lss rfl (ev1 rfl) (ev1 rfl)) ?_
  refine zaf ?_
  refine zae ?_
  refine dwp_cond rfl (fun c2 => ?_) (fun c2 => ?_)
  · try simp only [decide_eq_true_eq, decide_eq_false_iff_not, beq_iff_eq, bne_iff_ne, beq_eq_false_iff_ne, bne_eq_false_iff_eq, Bool.not_eq_true', Bool.not_eq_false', Bool.and_eq_true, Bool.or_eq_true, Bool.or_eq_false_iff, ne_eq, Decidable.not_not, Int.not_lt, Int.not_le] at c2
    refine zal ?_
    refine zae ?_
    refine zam ?_
    refine zae ?_
    refine zak 1 (by simp only [holes, List.cons_append, List.nil_append]; exact rfl) ?_
    refine zad ?_
    refine zab rfl rfl rfl (zac (.inl rfl) (ev1 rfl)) ?_
    refine zab rfl rfl rfl (op_ixmr (0) (by decide) rfl sl26 (ev1 rfl) (ev1 rfl) (fun _ => rfl) (by omega) (fun _ => rfl)) ?_
    refine zab rfl rfl rfl (op_lddr rfl tb44 (ev1 rfl) rfl rfl) ?_
    refine zan rfl rfl rfl (op_alloc 5 rfl zr44 rfl) (by simp only [upd, za, zaa]; exact rfl) ?_
    refine zab rfl rfl rfl (zac (.inr rfl) (ev1 rfl)) ?_
    refine walk_s rfl rfl (op_stam2 rfl tb44 (ev1 rfl) (ev1 rfl) rfl rfl rfl rfl) (by simp only [upd, za, zaa]; exact rfl) ?_
    refine zaf ?_
    refine zae ?_
    refine zad ?_
    refine zab rfl rfl rfl (zac (.inl rfl) (ev1 rfl)) ?_
    refine zab rfl rfl rfl (zac (.inl rfl) (ev1 rfl)) ?_
    refine zab rfl rfl rfl (op_ldmw rfl tb44 (ev1 rfl) rfl rfl) ?_
    refine zan rfl rfl rfl (op_y (i := 0) [0, 1, 2, 3] [] [] rfl (ev1 rfl) (ec (ev1 rfl) (ec (ev1 rfl) en)) rfl rfl rfl (belR_false0 i l[0] _ (bN_zero (by omega) hn)) rfl rfl rfl rfl rfl) (by simp only [upd, za, zaa]; exact rfl) ?_
    refine zab rfl rfl rfl (op_not rfl (ev1 rfl)) ?_
    refine zaf ?_
    refine dwp_if_t rfl (rfl) ?_
    refine dwp_ret ?_
    have e2 : (l.all (fun m : Mk => lessR m.i i)) = false := all_no (k := 0) (by omega) (bN_zero (by omega) hn)
    rw [e2]
    refine kend [0, 1, 2, 3, 4] (res_none rfl) rfl rfl ?_ ⟨rfl, rfl, rfl, rfl, rfl, trivial⟩
    rfl
  · try simp only [decide_eq_true_eq, decide_eq_false_iff_not, beq_iff_eq, bne_iff_ne, beq_eq_false_iff_ne, bne_eq_false_iff_eq, Bool.not_eq_true', Bool.not_eq_false', Bool.and_eq_true, Bool.or_eq_true, Bool.or_eq_false_iff, ne_eq, Decidable.not_not, Int.not_lt, Int.not_le] at c2
    refine dwp_exit ?_
    have e2 : (l.all (fun m : Mk => lessR m.i i)) = true := all_empty (by omega)
    rw [e2]
    refine kend [0, 1, 2, 3, 4] (res_none rfl) rfl rfl ?_ ⟨rfl, rfl, rfl, rfl, rfl, trivial⟩
    rfl
set_option maxRecDepth 4000 in
set_option maxHeartbeats 1000000 in
theorem told_belp (l : List Mk) (h : l.length ≤ 5000) (i : I3) (hc : chkM l = true) (hn : 0 < bN l i) : DFun Try.prog 78 [.yld 0, .loc 4 0] [.lp 23 [(3, .loc 1 0), (6, .loc 2 0), (7, .loc 3 0)] #[13, 14] belA belB .ready none, .flat 35 (idc i), .mix 44 ([.val (.int .u64 0), .val (.int .i64 0), .val (.int .u64 0), .val (.pointer none)]), .flat 4 [.bool false], .mix 26 [.slm 4 (l).length ((l).flatMap mkC)]] (.tup []) [.lp 23 [(3, .loc 1 0), (6, .loc 2 0), (7, .loc 3 0)] #[13, 14] belA belB (rst (l.all (fun m : Mk => lessR m.i i))) (rpe (.exit 0) (l.all (fun m : Mk => lessR m.i i))), .flat 35 (idc i), .mix 44 (mkC (l.getD (bN l i - 1) zMk)), .flat 4 [.bool true], .mix 26 [.slm 4 (l).length ((l).flatMap mkC)]] := by
  have hl0 : 0 < l.length := Nat.lt_of_lt_of_le hn (bN_le l i)
  have hf0 := bN_first hl0 hn
  refine zao (N := 21) 5 (by kernel_rfl) Try.func78 rfl rfl rfl (by simp only [fr0, Nat.zero_add, Nat.reduceAdd]; exact rfl) rfl fun s0 hs0 => ?_
  refine zae ?_
  refine zae ?_
  refine zad ?_
  refine zab rfl rfl rfl (op_ldm rfl tb26 (ev1 rfl) rfl rfl) ?_
  refine zab rfl rfl rfl (zah [] [] [] rfl (ev1 rfl) (ec (ev1 rfl) en) rfl rfl (mcheck_d _ (by omega)) rfl rfl rfl rfl rfl rfl) ?_
  refine zab rfl rfl rfl (op_neq rfl (ev1 rfl) (ev1 rfl)) ?_
  refine zaf ?_
  refine dwp_if_f rfl (by rw [hc]; rfl) ?_
  refine zal ?_
  refine zae ?_
  refine zad ?_
  refine zab rfl rfl rfl (op_ldm rfl tb26 (ev1 rfl) rfl rfl) ?_
  refine zab rfl rfl rfl (op_lenm rfl sl26 (ev1 rfl)) ?_
  refine zab rfl rfl rfl (zac (.inl rfl) (ev1 rfl)) ?_
  refine zaf ?_
  refine zam ?_
  refine dwp_dloop (dloop_step ?_)
  refine zae ?_
  refine zad ?_
  refine zab rfl rfl rfl (op_lss rfl (ev1 rfl) (ev1 rfl)) ?_
  refine zaf ?_
  refine zae ?_
  refine dwp_if_t rfl (by simp; omega) ?_
  refine zal ?_
  refine zae ?_
  refine zam ?_
  refine zae ?_
  refine zak 1 (by simp only [holes, List.cons_append, List.nil_append]; exact rfl) ?_
  refine zad ?_
  refine zab rfl rfl rfl (zac (.inl rfl) (ev1 rfl)) ?_
  refine zab rfl rfl rfl (op_ixmr (0) (by decide) rfl sl26 (ev1 rfl) (ev1 rfl) (fun _ => rfl) (by omega) (fun _ => rfl)) ?_
  refine zab rfl rfl rfl (op_lddr rfl tb44 (ev1 rfl) rfl rfl) ?_
  refine zan rfl rfl rfl (op_alloc 5 rfl zr44 rfl) (by simp only [upd, za, zaa]; exact rfl) ?_
  refine zab rfl rfl rfl (zac (.inr rfl) (ev1 rfl)) ?_
  refine walk_s rfl rfl (op_stam2 rfl tb44 (ev1 rfl) (ev1 rfl) rfl rfl rfl rfl) (by simp only [upd, za, zaa]; exact rfl) ?_
  refine zaf ?_
  refine zae ?_
  refine zad ?_
  refine zab rfl rfl rfl (zac (.inl rfl) (ev1 rfl)) ?_
  refine zab rfl rfl rfl (zac (.inl rfl) (ev1 rfl)) ?_
  refine zab rfl rfl rfl (op_ldmw rfl tb44 (ev1 rfl) rfl rfl) ?_
  refine zan rfl rfl rfl (op_y (i := 0) [0, 1, 2, 3] [] [] rfl (ev1 rfl) (ec (ev1 rfl) (ec (ev1 rfl) en)) rfl rfl rfl (belR_true0 i l[0] _ hf0) rfl rfl rfl rfl rfl) (by simp only [upd, za, zaa]; exact rfl) ?_
  refine zab rfl rfl rfl (op_not rfl (ev1 rfl)) ?_
  refine zaf ?_
  refine dwp_if_f rfl (rfl) ?_
  refine zal ?_
  refine zad ?_
  refine zab rfl rfl rfl (op_add' rfl (ev1 rfl) (ev1 rfl) (fun _ => IntWalk.i64_in _ (by omega))) ?_
  refine zab rfl rfl rfl (zac (.inl rfl) (ev1 rfl)) ?_
  refine zaf ?_
  refine dloopS ⟨hs0, rfl⟩ (α := Nat) (fun k => [(10, .val (.int .i64 ((k + 1 : Nat) : Int)))]) [(0, _), (8, _), (9, _)] (fun k => [(2, .mix 44 (mkC (l.getD k zMk)))]) [_, _, .hole, _, _, _] (fun k => k + 1 ≤ l.length ∧ (l.take (k + 1)).all (fun m : Mk => lessR m.i i) = true) (fun k => l.length - k) 0 [0, 1, 2, 3, 4, 5] (⟨by omega, all_take hl0 (by simp) hf0⟩) rfl ⟨rfl, rfl, rfl, trivial⟩ ⟨rfl, trivial⟩ ⟨rfl, rfl, by rw [gM hl0]; rfl, rfl, rfl, rfl, trivial⟩ ?_
  intro k hx
  simp only [upd, za, zaa, List.cons_append, List.nil_append]
  obtain ⟨hk, he⟩ := hx
  refine zae ?_
  refine zad ?_
  refine zab rfl rfl rfl (op_lss rfl (ev1 rfl) (ev1 rfl)) ?_
  refine zaf ?_
  refine zae ?_
  refine dwp_cond rfl (fun c4 => ?_) (fun c4 => ?_)
  · try simp only [decide_eq_true_eq, decide_eq_false_iff_not, beq_iff_eq, bne_iff_ne, beq_eq_false_iff_ne, bne_eq_false_iff_eq, Bool.not_eq_true', Bool.not_eq_false', Bool.and_eq_true, Bool.or_eq_true, Bool.or_eq_false_iff, ne_eq, Decidable.not_not, Int.not_lt, Int.not_le] at c4
    refine zal ?_
    refine zae ?_
    refine zam ?_
    refine zae ?_
    refine zak 1 (by simp only [holes, List.cons_append, List.nil_append]; exact rfl) ?_
    refine zad ?_
    refine zab rfl rfl rfl (zac (.inl rfl) (ev1 rfl)) ?_
    refine zab rfl rfl rfl (op_ixmr (k + 1) (by decide) rfl sl26 (ev1 rfl) (ev1 rfl) (fun _ => rfl) (by omega) (fun _ => rfl)) ?_
    refine zab rfl rfl rfl (op_lddr rfl tb44 (ev1 rfl) rfl rfl) ?_
    refine zan rfl rfl rfl (op_alloc 6 rfl zr44 rfl) (by simp only [upd, za, zaa]; exact rfl) ?_
    refine zab rfl rfl rfl (zac (.inr rfl) (ev1 rfl)) ?_
    refine walk_s rfl rfl (op_stam2 rfl tb44 (ev1 rfl) (ev1 rfl) rfl rfl rfl rfl) (by simp only [upd, za, zaa]; exact rfl) ?_
    refine zaf ?_
    refine zae ?_
    by_cases c3 : lessR (l.getD (k + 1) zMk).i i = true
    · refine zad ?_
      refine zab rfl rfl rfl (zac (.inl rfl) (ev1 rfl)) ?_
      refine zab rfl rfl rfl (zac (.inl rfl) (ev1 rfl)) ?_
      refine zab rfl rfl rfl (op_ldmw rfl tb44 (ev1 rfl) rfl rfl) ?_
      refine zan rfl rfl rfl (op_y (i := 0) [0, 1, 2, 3] [] [] rfl (ev1 rfl) (ec (ev1 rfl) (ec (ev1 rfl) en)) rfl rfl rfl (belR_true1 i l[k + 1] _ _ (by rw [← gM (by omega)]; exact c3)) rfl rfl rfl rfl rfl) (by simp only [upd, za, zaa]; exact rfl) ?_
      refine zab rfl rfl rfl (op_not rfl (ev1 rfl)) ?_
      refine zaf ?_
      refine dwp_if_f rfl (rfl) ?_
      refine zal ?_
      refine zad ?_
      refine zab rfl rfl rfl (op_add' rfl (ev1 rfl) (ev1 rfl) (fun _ => IntWalk.i64_in _ (by omega))) ?_
      refine zab rfl rfl rfl (zac (.inl rfl) (ev1 rfl)) ?_
      refine zaf ?_
      refine ⟨k + 1, [0, 1, 2, 3, 4, 5], ⟨by omega, all_take (by omega) he (show lessR l[k + 1].i i = true by rw [← gM (by omega)]; exact c3)⟩, by simp only []; omega, rfl, ⟨rfl, rfl, rfl, rfl, trivial⟩, ⟨rfl, rfl, by rw [gM (by omega)]; rfl, rfl, rfl, rfl, trivial⟩⟩
    · refine zad ?_
      refine zab rfl rfl rfl (zac (.inl rfl) (ev1 rfl)) ?_
      refine zab rfl rfl rfl (zac (.inl rfl) (ev1 rfl)) ?_
      refine zab rfl rfl rfl (op_ldmw rfl tb44 (ev1 rfl) rfl rfl) ?_
      refine zan rfl rfl rfl (op_y (i := 0) [0, 1, 2, 3] [] [] rfl (ev1 rfl) (ec (ev1 rfl) (ec (ev1 rfl) en)) rfl rfl rfl (belR_false1 i l[k + 1] _ _ (by rw [← gM (by omega)]; simpa using c3)) rfl rfl rfl rfl rfl) (by simp only [upd, za, zaa]; exact rfl) ?_
      refine zab rfl rfl rfl (op_not rfl (ev1 rfl)) ?_
      refine zaf ?_
      refine dwp_if_t rfl (rfl) ?_
      refine dwp_ret ?_
      have e1 : lessR l[k + 1].i i = false := by rw [← gM (by omega)]; simpa using c3
      have e2 : (l.all (fun m : Mk => lessR m.i i)) = false := all_no (k := k + 1) (by omega) e1
      have e3 : bN l i = k + 1 := bN_stop (by omega) he e1
      rw [e2, e3, Nat.add_sub_cancel]
      refine kend [0, 1, 2, 3, 4] (res_none rfl) rfl rfl ?_ ⟨rfl, rfl, rfl, rfl, rfl, trivial⟩
      rfl
  · try simp only [decide_eq_true_eq, decide_eq_false_iff_not, beq_iff_eq, bne_iff_ne, beq_eq_false_iff_ne, bne_eq_false_iff_eq, Bool.not_eq_true', Bool.not_eq_false', Bool.and_eq_true, Bool.or_eq_true, Bool.or_eq_false_iff, ne_eq, Decidable.not_not, Int.not_lt, Int.not_le] at c4
    refine dwp_exit ?_
    have hkl : k + 1 = l.length := by omega
    rw [hkl, List.take_length] at he
    have e3 : bN l i = l.length := bN_all he
    rw [he, e3, ← hkl, Nat.add_sub_cancel]
    refine kend [0, 1, 2, 3, 4] (res_none rfl) rfl rfl ?_ ⟨rfl, rfl, rfl, rfl, rfl, trivial⟩
    rfl
set_option maxRecDepth 4000 in
set_option maxHeartbeats 1000000 in
theorem below_0 (l : List Mk) (h : l.length ≤ 5000) (i : I3) (hc : chkM l = true) (hn : bN l i = 0) : DFun Try.prog 21 [.slm 4 (l).length ((l).flatMap mkC), .val (.agg (idc i).toArray)] [] (.tup [.agg [.val (.int .u64 0), .val (.int .i64 0), .val (.int .u64 0), .val (.pointer none)], .val (.bool false)]) [] := by
  refine zao (N := 23) 0 (by kernel_rfl) Try.func21 rfl rfl rfl (by simp only [fr0, Nat.zero_add, Nat.reduceAdd]; exact rfl) rfl fun s0 hs0 => ?_
  refine dwp_lenm (t := 0) rfl fun hl0 hL0 => ?_
  refine zae ?_
  refine zak 2 (by simp only [holes, List.cons_append, List.nil_append]; exact rfl) ?_
  refine zad ?_
  refine zan rfl rfl rfl (op_boxa 0 rfl (ev1 rfl) rfl) (by simp only [upd, za, zaa]; exact rfl) ?_
  refine zan rfl rfl rfl (op_alloc 1 rfl zr44 rfl) (by simp only [upd, za, zaa]; exact rfl) ?_
  refine zab rfl rfl rfl (zac (.inr rfl) (ev1 rfl)) ?_
  refine zaf ?_
  refine dwp_scope ?_
  refine zae ?_
  refine zak 2 (by simp only [holes, List.cons_append, List.nil_append]; exact rfl) ?_
  refine zad ?_
  refine zab rfl rfl rfl (op_build0 rfl fl44 zr44) ?_
  refine zan rfl rfl rfl (op_alloc 2 rfl zr44 rfl) (by simp only [upd, za, zaa]; exact rfl) ?_
  refine zan rfl rfl rfl (op_alloc 3 rfl zr4 rfl) (by simp only [upd, za, zaa]; exact rfl) ?_
  refine walk_s rfl rfl (op_stwa rfl tb44 (ev1 rfl) (ev1 rfl) rfl rfl rfl rfl) (by simp only [upd, za, zaa]; exact rfl) ?_
  refine walk_s rfl rfl (op_stwb rfl tb4 (ev1 rfl) (ev1 rfl) rfl) (by simp only [upd, za, zaa]; exact rfl) ?_
  refine zaf ?_
  refine zae ?_
  refine dwp_label ?_
  refine zae ?_
  refine zae ?_
  refine zak 1 (by simp only [holes, List.cons_append, List.nil_append]; exact rfl) ?_
  refine zad ?_
  refine zab rfl rfl rfl (zac (.inl rfl) (ev1 rfl)) ?_
  refine zan rfl rfl rfl (zah [] [] [4] rfl (ev1 rfl) (ec (ev1 rfl) en) rfl rfl (told_d l) rfl rfl rfl rfl rfl rfl) (by simp only [upd, za, zaa]; exact rfl) ?_
  refine zaf ?_
  refine zam ?_
  refine dwp_reb 2 reb_mix rfl rfl (by simp only [List.cons_append, List.nil_append, za, zaa, List.map]; exact rfl) ?_
  refine dwp_hole ?_
  simp only [List.cons_append, List.nil_append]
  refine dwp_rf (FL := [(3, _), (6, _), (7, _)]) (st := (rst (l.all (fun m : Mk => lessR m.i i)))) (pe := (rpe (.exit 0) (l.all (fun m : Mk => lessR m.i i)))) [5, 0, 2, 3, 4] [] [] 5 rfl rfl (ev1 rfl) rfl (subF_lk ⟨rfl, rfl, rfl, trivial⟩) rfl rfl rfl (told_bel0 l h i hc hn) rfl rfl rfl rfl rfl rfl rfl (rst_busy _) (fun e => ?_) (fun c e => ?_)
  · simp only [upd, za, zaa]
    refine zae ?_
    refine dwp_draw [([2], []), ([3], []), ([1], [1]), ([], [])] mixed (by kernel_rfl) ?_
    refine zag rfl rfl (op_ldmw rfl tb44 (ev1 rfl) rfl rfl) ?_
    refine zag rfl rfl (op_ldo rfl tb4 (ev1 rfl) rfl rfl) ?_
    refine lex_s rfl rfl (op_stam rfl tb44 (ev1 rfl) (ev1 rfl) rfl rfl rfl rfl) rfl (by simp only [upd, za, zaa]; exact rfl) ?_
    refine zag rfl rfl (zac (.inr rfl) (ev1 rfl)) ?_
    refine lex_nil ?_
    refine dwp_ret ?_
    refine kend0 (rs2 rfl (rv_mw tb44 rfl rfl rfl) (rv_t rfl)) rfl ?_
    rfl
  · obtain ⟨e1, rfl⟩ : (l.all (fun m : Mk => lessR m.i i)) = false ∧ c = .exit 0 := by
      cases h : (l.all (fun m : Mk => lessR m.i i)) <;> simp_all [rpe]
    simp only [upd, za, zaa]
    refine dwp_exit ?_
    refine zae ?_
    refine dwp_draw [([2], []), ([3], []), ([1], [1]), ([], [])] mixed (by kernel_rfl) ?_
    refine zag rfl rfl (op_ldmw rfl tb44 (ev1 rfl) rfl rfl) ?_
    refine zag rfl rfl (op_ldo rfl tb4 (ev1 rfl) rfl rfl) ?_
    refine lex_s rfl rfl (op_stam rfl tb44 (ev1 rfl) (ev1 rfl) rfl rfl rfl rfl) rfl (by simp only [upd, za, zaa]; exact rfl) ?_
    refine zag rfl rfl (zac (.inr rfl) (ev1 rfl)) ?_
    refine lex_nil ?_
    refine dwp_ret ?_
    refine kend0 (rs2 rfl (rv_mw tb44 rfl rfl rfl) (rv_t rfl)) rfl ?_
    rfl
set_option maxRecDepth 4000 in
set_option maxHeartbeats 1000000 in
theorem below_p (l : List Mk) (h : l.length ≤ 5000) (i : I3) (hc : chkM l = true) (hn : 0 < bN l i) : DFun Try.prog 21 [.slm 4 (l).length ((l).flatMap mkC), .val (.agg (idc i).toArray)] [] (.tup [.agg (mkC (l.getD (bN l i - 1) zMk)), .val (.bool true)]) [] := by
  refine zao (N := 23) 0 (by kernel_rfl) Try.func21 rfl rfl rfl (by simp only [fr0, Nat.zero_add, Nat.reduceAdd]; exact rfl) rfl fun s0 hs0 => ?_
  refine dwp_lenm (t := 0) rfl fun hl0 hL0 => ?_
  refine zae ?_
  refine zak 2 (by simp only [holes, List.cons_append, List.nil_append]; exact rfl) ?_
  refine zad ?_
  refine zan rfl rfl rfl (op_boxa 0 rfl (ev1 rfl) rfl) (by simp only [upd, za, zaa]; exact rfl) ?_
  refine zan rfl rfl rfl (op_alloc 1 rfl zr44 rfl) (by simp only [upd, za, zaa]; exact rfl) ?_
  refine zab rfl rfl rfl (zac (.inr rfl) (ev1 rfl)) ?_
  refine zaf ?_
  refine dwp_scope ?_
  refine zae ?_
  refine zak 2 (by simp only [holes, List.cons_append, List.nil_append]; exact rfl) ?_
  refine zad ?_
  refine zab rfl rfl rfl (op_build0 rfl fl44 zr44) ?_
  refine zan rfl rfl rfl (op_alloc 2 rfl zr44 rfl) (by simp only [upd, za, zaa]; exact rfl) ?_
  refine zan rfl rfl rfl (op_alloc 3 rfl zr4 rfl) (by simp only [upd, za, zaa]; exact rfl) ?_
  refine walk_s rfl rfl (op_stwa rfl tb44 (ev1 rfl) (ev1 rfl) rfl rfl rfl rfl) (by simp only [upd, za, zaa]; exact rfl) ?_
  refine walk_s rfl rfl (op_stwb rfl tb4 (ev1 rfl) (ev1 rfl) rfl) (by simp only [upd, za, zaa]; exact rfl) ?_
  refine zaf ?_
  refine zae ?_
  refine dwp_label ?_
  refine zae ?_
  refine zae ?_
  refine zak 1 (by simp only [holes, List.cons_append, List.nil_append]; exact rfl) ?_
  refine zad ?_
  refine zab rfl rfl rfl (zac (.inl rfl) (ev1 rfl)) ?_
  refine zan rfl rfl rfl (zah [] [] [4] rfl (ev1 rfl) (ec (ev1 rfl) en) rfl rfl (told_d l) rfl rfl rfl rfl rfl rfl) (by simp only [upd, za, zaa]; exact rfl) ?_
  refine zaf ?_
  refine zam ?_
  refine dwp_reb 2 reb_mix rfl rfl (by simp only [List.cons_append, List.nil_append, za, zaa, List.map]; exact rfl) ?_
  refine dwp_hole ?_
  simp only [List.cons_append, List.nil_append]
  refine dwp_rf (FL := [(3, _), (6, _), (7, _)]) (st := (rst (l.all (fun m : Mk => lessR m.i i)))) (pe := (rpe (.exit 0) (l.all (fun m : Mk => lessR m.i i)))) [5, 0, 2, 3, 4] [] [] 5 rfl rfl (ev1 rfl) rfl (subF_lk ⟨rfl, rfl, rfl, trivial⟩) rfl rfl rfl (told_belp l h i hc hn) rfl rfl rfl rfl rfl rfl rfl (rst_busy _) (fun e => ?_) (fun c e => ?_)
  · simp only [upd, za, zaa]
    refine zae ?_
    refine dwp_draw [([2], []), ([3], []), ([1], [1]), ([], [])] mixed (by kernel_rfl) ?_
    refine zag rfl rfl (op_ldmw rfl tb44 (ev1 rfl) rfl rfl) ?_
    refine zag rfl rfl (op_ldo rfl tb4 (ev1 rfl) rfl rfl) ?_
    refine lex_s rfl rfl (op_stam2 rfl tb44 (ev1 rfl) (ev1 rfl) rfl rfl rfl rfl) rfl (by simp only [upd, za, zaa]; exact rfl) ?_
    refine zag rfl rfl (zac (.inr rfl) (ev1 rfl)) ?_
    refine lex_nil ?_
    refine dwp_ret ?_
    refine kend0 (rs2 rfl (rv_mw tb44 rfl rfl rfl) (rv_t rfl)) rfl ?_
    rfl
  · obtain ⟨e1, rfl⟩ : (l.all (fun m : Mk => lessR m.i i)) = false ∧ c = .exit 0 := by
      cases h : (l.all (fun m : Mk => lessR m.i i)) <;> simp_all [rpe]
    simp only [upd, za, zaa]
    refine dwp_exit ?_
    refine zae ?_
    refine dwp_draw [([2], []), ([3], []), ([1], [1]), ([], [])] mixed (by kernel_rfl) ?_
    refine zag rfl rfl (op_ldmw rfl tb44 (ev1 rfl) rfl rfl) ?_
    refine zag rfl rfl (op_ldo rfl tb4 (ev1 rfl) rfl rfl) ?_
    refine lex_s rfl rfl (op_stam2 rfl tb44 (ev1 rfl) (ev1 rfl) rfl rfl rfl rfl) rfl (by simp only [upd, za, zaa]; exact rfl) ?_
    refine zag rfl rfl (zac (.inr rfl) (ev1 rfl)) ?_
    refine lex_nil ?_
    refine dwp_ret ?_
    refine kend0 (rs2 rfl (rv_mw tb44 rfl rfl rfl) (rv_t rfl)) rfl ?_
    rfl
end Go.Proofs.Ytmpodnadoebclaa
namespace Go.Proofs.Ytmpodnadoebclaa
set_option maxRecDepth 4000
set_option linter.unusedVariables false
set_option linter.unusedSimpArgs false
open Go.RowKit
theorem fl74 : fdL Try.prog 74 = some [(0, 1)] := by kernel_rfl
theorem fo74_0 : fdO Try.prog 74 0 = some 0 := by kernel_rfl
theorem kn3 : knd Try.prog 3 = some .i64 := by kernel_rfl
theorem kn65 : knd Try.prog 65 = some .u64 := by kernel_rfl
theorem tb74 : tyB Try.prog 74 = some (true, 1) := by kernel_rfl
theorem ty3 : (tyB Try.prog 3).isSome = true := by kernel_rfl
theorem ty65 : (tyB Try.prog 65).isSome = true := by kernel_rfl
theorem zr74 : zrC Try.prog 74 = some [.slice none 0 0] := by kernel_rfl
theorem less_iff {a b : I3} : lessR a b = true ↔ a.t < b.t ∨ a.t = b.t ∧ (a.s < b.s ∨ a.s = b.s ∧ a.q < b.q) := by
  unfold lessR
  split
  · rename_i h; rw [decide_eq_true_eq]; omega
  · split
    · rename_i h h2; rw [decide_eq_true_eq]; omega
    · rename_i h h2; rw [decide_eq_true_eq]; omega
theorem less_tr {a b c : I3} (h1 : lessR a b = true) (h2 : lessR b c = true) : lessR a c = true := by rw [less_iff] at *; omega
theorem less_irr (a : I3) : lessR a a = false := by
  rw [← Bool.not_eq_true, less_iff]; omega
theorem less_tri {a b : I3} (h1 : lessR a b = false) (h2 : lessR b a = false) : a = b := by
  rw [← Bool.not_eq_true, less_iff] at *
  obtain ⟨x, y, z⟩ := a
  obtain ⟨x', y', z'⟩ := b
  simp only [I3.mk.injEq]
  dsimp only at *
  omega
theorem less_t {a b : I3} (h1 : lessR a b = true) : a.t ≤ b.t := by rw [less_iff] at h1; omega
theorem cmp_zero {a b : I3} : cmpR a b = 0 ↔ a = b := by
  constructor
  · intro h
    have h1 := lessC_R a b
    have h2 : ¬ cmpR a b < 0 := by omega
    unfold cmpR at h
    split at h
    · rename_i h3; exact eqI_iff.1 h3
    · simp only [orL, cmpI] at h
      have key : a.t = b.t ∧ a.s = b.s ∧ a.q = b.q := by
        by_cases a1 : a.t < b.t
        · simp [a1] at h
        · by_cases a2 : b.t < a.t
          · simp [a1, a2] at h
          · simp [a1, a2] at h
            by_cases b1 : a.s < b.s
            · simp [b1] at h
            · by_cases b2 : b.s < a.s
              · simp [b1, b2] at h
              · simp [b1, b2] at h
                by_cases c1 : a.q < b.q
                · simp [c1] at h
                · by_cases c2 : b.q < a.q
                  · simp [c1, c2] at h
                  · omega
      obtain ⟨x, y, z⟩ := a
      obtain ⟨x', y', z'⟩ := b
      simpa using key
  · rintro rfl
    unfold cmpR
    rw [if_pos (eqI_iff.2 rfl)]
def okI (l : List I3) : Prop := (∀ x ∈ l, mayR x = true) ∧ ∀ i j, i < j → j < l.length → lessR (l.getD i zI3) (l.getD j zI3) = true
theorem risN_ok {l : List I3} : ∀ n, n ≤ l.length → (risN l n = true ↔ ∀ i j, i < j → j < n → lessR (l.getD i zI3) (l.getD j zI3) = true)
  | 0, _ => ⟨fun _ i j h1 h2 => absurd h2 (by omega), fun _ => rfl⟩
  | 1, _ => ⟨fun _ i j h1 h2 => absurd h2 (by omega), fun _ => rfl⟩
  | n + 2, hn => by
    rw [risN, Bool.and_eq_true, risN_ok (n + 1) (by omega)]
    constructor
    · rintro ⟨h1, h2⟩ i j hij hj
      by_cases e : j = n + 1
      · subst e
        by_cases e2 : i = n
        · subst e2; exact h2
        · exact less_tr (h1 i n (by omega) (by omega)) h2
      · exact h1 i j hij (by omega)
    · intro h
      exact ⟨fun i j h1 h2 => h i j h1 (by omega), h n (n + 1) (by omega) (by omega)⟩
theorem ris_ok {l : List I3} (hm : l.all mayR = true) : risL l = true ↔ okI l := by
  unfold risL okI
  rw [risN_ok l.length (Nat.le_refl _)]
  exact ⟨fun h => ⟨fun x hx => List.all_eq_true.1 hm x hx, h⟩, fun h => h.2⟩
def plI (l : List I3) (i : I3) : Nat := (l.filter fun x => lessR x i).length
theorem plI_le (l : List I3) (i : I3) : plI l i ≤ l.length := List.length_filter_le _ _
theorem plI_split {l : List I3} (i : I3) (h : ∀ a b, a < b → b < l.length → lessR (l.getD a zI3) (l.getD b zI3) = true) : ∃ p, p ≤ l.length ∧ plI l i = p ∧ (∀ k, k < p → lessR (l.getD k zI3) i = true) ∧ ∀ k, p ≤ k → k < l.length → lessR (l.getD k zI3) i = false := by
  induction l with
  | nil => exact ⟨0, Nat.le_refl _, rfl, fun k h => absurd h (by omega), fun k _ h => by simp at h⟩
  | cons a l ih =>
    obtain ⟨p, h1, h2, h3, h4⟩ := ih fun x y hx hy => h (x + 1) (y + 1) (by omega) (by simp; omega)
    cases ha : lessR a i with
    | true =>
      refine ⟨p + 1, by simp; omega, ?_, fun k hk => ?_, fun k hk hk2 => ?_⟩
      · unfold plI at h2 ⊢
        rw [List.filter_cons, if_pos ha, List.length_cons, h2]
      · cases k with
        | zero => exact ha
        | succ k => exact h3 k (by omega)
      · cases k with
        | zero => omega
        | succ k => exact h4 k (by omega) (by simpa using hk2)
    | false =>
      have hall : ∀ k, k < l.length → lessR (l.getD k zI3) i = false := fun k hk => by
        have h5 := h 0 (k + 1) (by omega) (by simp; omega)
        cases h6 : lessR (l.getD k zI3) i with
        | false => rfl
        | true =>
          have h7 : lessR a i = true := less_tr h5 h6
          rw [ha] at h7; cases h7
      refine ⟨0, Nat.zero_le _, ?_, fun k hk => absurd hk (by omega), fun k _ hk2 => ?_⟩
      · unfold plI
        rw [List.filter_cons, if_neg (by rw [ha]; decide), List.filter_eq_nil_iff.2 fun x hx => ?_]
        · rfl
        · obtain ⟨k, hk, rfl⟩ := List.getElem_of_mem hx
          have := hall k hk
          rw [gI hk] at this
          rw [this]; decide
      · cases k with
        | zero => exact ha
        | succ k => exact hall k (by simpa using hk2)
theorem okI.split {l : List I3} (h : okI l) (i : I3) : (∀ k, k < plI l i → lessR (l.getD k zI3) i = true) ∧ ∀ k, plI l i ≤ k → k < l.length → lessR (l.getD k zI3) i = false := by
  obtain ⟨p, _, h2, h3, h4⟩ := plI_split i h.2
  rw [h2]
  exact ⟨h3, h4⟩
theorem okI.mem {l : List I3} (h : okI l) (i : I3) : i ∈ l ↔ plI l i < l.length ∧ l.getD (plI l i) zI3 = i := by
  obtain ⟨h3, h4⟩ := h.split i
  constructor
  · intro hm
    obtain ⟨k, hk, rfl⟩ := List.getElem_of_mem hm
    have e : plI l l[k] = k := by
      rcases Nat.lt_trichotomy (plI l l[k]) k with h5 | h5 | h5
      · have h6 := h4 _ (Nat.le_refl _) (by omega)
        have h7 := h.2 _ k h5 hk
        rw [gI hk] at h7
        rw [h7] at h6; cases h6
      · exact h5
      · have h6 := h3 k h5
        rw [gI hk, less_irr] at h6; cases h6
    rw [e]
    exact ⟨hk, gI hk⟩
  · rintro ⟨h5, h6⟩
    rw [← h6, gI h5]
    exact List.getElem_mem _
theorem okI.t {l : List I3} (h : okI l) {a b : Nat} (hab : a < b) (hb : b < l.length) : 1 ≤ (l.getD a zI3).t ∧ (l.getD a zI3).t ≤ (l.getD b zI3).t ∧ (l.getD b zI3).t ≤ 4611686018427387904 := by
  have h1 := h.1 _ (List.getElem_mem (show a < l.length by omega))
  have h2 := h.1 _ (List.getElem_mem hb)
  rw [← gI] at h1 h2
  simp only [mayR, isNum, Bool.and_eq_true, decide_eq_true_eq] at h1 h2
  exact ⟨h1.1.1, less_t (h.2 a b hab hb), h2.1.2⟩
def clN (g : Nat → Int) : Nat → Nat
  | 0 => 0
  | k + 1 => if clN g k = 0 ∨ g (k + 1) < g (clN g k) then k + 1 else clN g k
theorem clN_le (g : Nat → Int) : ∀ n, clN g n ≤ n
  | 0 => Nat.le_refl _
  | n + 1 => by
    have := clN_le g n
    unfold clN
    split <;> omega
def gapI (l : List I3) (k : Nat) : Int := (l.getD (k + 1) zI3).t - (l.getD (k - 1) zI3).t
def closI (l : List I3) : Nat := clN (gapI l) (l.length - 2)
def insK {α : Type} (key : α → I3) (l : List α) (x : α) : List α := l.take (plI (l.map key) (key x)) ++ x :: l.drop (if key x ∈ l.map key then plI (l.map key) (key x) + 1 else plI (l.map key) (key x))
def lessK {α : Type} (key : α → I3) (l : List α) : List α := if 6 < l.length then l.take (closI (l.map key)) ++ l.drop (closI (l.map key) + 1) else l
def putK {α : Type} (key : α → I3) (l : List α) (x : α) : List α := lessK key (insK key l x)
theorem insK_map {α β : Type} {key : α → I3} {key2 : β → I3} {f : α → β} (hf : ∀ a, key2 (f a) = key a) (l : List α) (x : α) : (insK key l x).map f = insK key2 (l.map f) (f x) := by
  have e : (l.map f).map key2 = l.map key := by rw [List.map_map]; exact List.map_congr_left fun a _ => hf a
  unfold insK
  rw [e, hf, List.map_append, List.map_take, List.map_cons, List.map_drop]
theorem lessK_map {α β : Type} {key : α → I3} {key2 : β → I3} {f : α → β} (hf : ∀ a, key2 (f a) = key a) (l : List α) : (lessK key l).map f = lessK key2 (l.map f) := by
  have e : (l.map f).map key2 = l.map key := by rw [List.map_map]; exact List.map_congr_left fun a _ => hf a
  unfold lessK
  rw [e, List.length_map]
  split
  · rw [List.map_append, List.map_take, List.map_drop]
  · rfl
theorem putK_map {α β : Type} {key : α → I3} {key2 : β → I3} {f : α → β} (hf : ∀ a, key2 (f a) = key a) (l : List α) (x : α) : (putK key l x).map f = putK key2 (l.map f) (f x) := by
  unfold putK
  rw [lessK_map hf, insK_map hf]
theorem ins_len {l : List I3} (h : okI l) (x : I3) : (insK id l x).length = if x ∈ l then l.length else l.length + 1 := by
  have hp := plI_le l x
  unfold insK
  rw [List.map_id]
  by_cases hm : x ∈ l
  · have := (h.mem x).1 hm
    rw [if_pos (by exact hm), if_pos hm]
    simp; omega
  · rw [if_neg (by exact hm), if_neg hm]
    simp; omega
theorem okI.pw {l : List I3} (h : okI l) : l.Pairwise fun a b => lessR a b = true := by
  rw [List.pairwise_iff_getElem]
  intro i j hi hj hij
  have := h.2 i j hij hj
  rwa [gI hi, gI hj] at this
theorem okI_of {l : List I3} (h1 : ∀ x ∈ l, mayR x = true) (h2 : l.Pairwise fun a b => lessR a b = true) : okI l := by
  refine ⟨h1, fun i j hij hj => ?_⟩
  rw [gI (by omega), gI hj]
  exact List.pairwise_iff_getElem.1 h2 i j (by omega) hj hij
theorem okI.sub {l r : List I3} (h : okI l) (hs : r.Sublist l) : okI r := okI_of (fun x hx => h.1 x (hs.subset hx)) (h.pw.sublist hs)
theorem ins_sub {l : List I3} (x : I3) : (insK id l x).Perm (x :: (l.take (plI l x) ++ l.drop (if x ∈ l then plI l x + 1 else plI l x))) := by
  unfold insK
  rw [List.map_id]
  exact List.perm_middle
theorem okI.ins {l : List I3} (h : okI l) {x : I3} (hx : mayR x = true) : okI (insK id l x) := by
  obtain ⟨h3, h4⟩ := h.split x
  have hp := plI_le l x
  have ha : ∀ a ∈ l.take (plI l x), lessR a x = true := fun a ha => by
    obtain ⟨k, hk, rfl⟩ := List.mem_take_iff_getElem.1 ha
    have := h3 k (by omega)
    rwa [gI (by omega)] at this
  have hb : ∀ b ∈ l.drop (if x ∈ l then plI l x + 1 else plI l x), lessR x b = true := fun b hb => by
    obtain ⟨k, hk, e⟩ := List.mem_drop_iff_getElem.1 hb
    generalize hq : (if x ∈ l then plI l x + 1 else plI l x) = q at hk e
    have hle : plI l x ≤ q + k := by subst hq; split <;> omega
    have eb : l.getD (q + k) zI3 = b := by rw [gI (by omega)]; exact e
    have h5 := h4 (q + k) hle (by omega)
    rw [eb] at h5
    cases h6 : lessR x b with
    | true => rfl
    | false =>
      exfalso
      have h7 := less_tri h6 h5
      have hm : x ∈ l := by rw [h7, ← eb, gI (by omega)]; exact List.getElem_mem _
      have h8 := (h.mem x).1 hm
      have h9 : plI l x < q + k := by subst hq; rw [if_pos hm]; omega
      have h10 := h.2 _ _ h9 (by omega)
      rw [eb, ← h7, h8.2, less_irr] at h10
      cases h10
  refine okI_of (fun y hy => ?_) ?_
  · rcases List.mem_cons.1 ((ins_sub x).mem_iff.1 hy) with rfl | hy
    · exact hx
    · rcases List.mem_append.1 hy with hy | hy
      · exact h.1 y (List.mem_of_mem_take hy)
      · exact h.1 y (List.mem_of_mem_drop hy)
  · unfold insK
    rw [List.map_id]
    rw [List.pairwise_append]
    refine ⟨h.pw.sublist (List.take_sublist _ _), ?_, fun a ha' b hb' => ?_⟩
    · rw [List.pairwise_cons]
      exact ⟨hb, h.pw.sublist (List.drop_sublist _ _)⟩
    · rcases List.mem_cons.1 hb' with rfl | hb'
      · exact ha a ha'
      · exact less_tr (ha a ha') (hb b hb')
theorem less_subl {α : Type} (key : α → I3) (l : List α) : (lessK key l).Sublist l := by
  unfold lessK
  split
  · have h : (l.take (closI (l.map key)) ++ l.drop (closI (l.map key) + 1)).Sublist (l.take (closI (l.map key)) ++ l.drop (closI (l.map key))) := List.Sublist.append (List.Sublist.refl _) (List.drop_sublist_drop_left _ (Nat.le_succ _))
    rwa [List.take_append_drop] at h
  · exact List.Sublist.refl _
theorem less_len {α : Type} (key : α → I3) {l : List α} (h : l.length ≤ 7) : (lessK key l).length ≤ 6 := by
  unfold lessK
  split
  · have h1 := clN_le (gapI (l.map key)) (l.length - 2)
    have h2 : closI (l.map key) ≤ l.length - 2 := by unfold closI; rw [List.length_map]; exact h1
    simp; omega
  · omega
theorem okI.put {l : List I3} (h : okI l) (hl : l.length ≤ 6) {x : I3} (hx : mayR x = true) : okI (putK id l x) ∧ (putK id l x).length ≤ 6 := by
  unfold putK
  refine ⟨(h.ins hx).sub (less_subl id _), less_len id ?_⟩
  rw [ins_len h]
  split <;> omega
set_option maxRecDepth 4000 in
set_option maxHeartbeats 1000000 in
theorem put1_d (a b : Mk) : DFun Try.prog 66 [.agg (mkC a), .agg (mkC b)] [] (.val (.int .i64 (cmpR a.i b.i))) [] := by
  refine zao (N := 10) 0 (by kernel_rfl) Try.func66 rfl rfl rfl (by simp only [fr0, Nat.zero_add, Nat.reduceAdd]; exact rfl) rfl fun s0 hs0 => ?_
  refine zae ?_
  refine zak 2 (by simp only [holes, List.cons_append, List.nil_append]; exact rfl) ?_
  refine zad ?_
  refine zan rfl rfl rfl (op_boxam 0 rfl (ev1 rfl) rfl) (by simp only [upd, za, zaa]; exact rfl) ?_
  refine zan rfl rfl rfl (op_boxam 1 rfl (ev1 rfl) rfl) (by simp only [upd, za, zaa]; exact rfl) ?_
  refine zab rfl rfl rfl (zac (.inr rfl) (ev1 rfl)) ?_
  refine zaf ?_
  refine zae ?_
  refine zad ?_
  refine zab rfl rfl rfl (op_fa rfl fo44_0 (ev1 rfl)) ?_
  refine zab rfl rfl rfl (op_ldmv (R := [_, _, _]) rfl tb35 (ev1 rfl) rfl rfl rfl) ?_
  refine zab rfl rfl rfl (op_fa rfl fo44_0 (ev1 rfl)) ?_
  refine zab rfl rfl rfl (op_ldmv (R := [_, _, _]) rfl tb35 (ev1 rfl) rfl rfl rfl) ?_
  refine zab rfl rfl rfl (zah [] [] [] rfl (ev1 rfl) (ec (ev1 rfl) (ec (ev1 rfl) en)) rfl rfl (compare_d _ _) rfl rfl rfl rfl rfl rfl) ?_
  refine zab rfl rfl rfl (zac (.inr rfl) (ev1 rfl)) ?_
  refine zaf ?_
  refine dwp_ret ?_
  refine kend0 (rs1 rfl (rv_t rfl)) rfl ?_
  rfl
theorem gIM {l : List Mk} {k : Nat} (h : k < l.length) : (idsK l).getD k zI3 = l[k].i := by rw [gI (by rw [List.length_map]; exact h), List.getElem_map]
theorem cmp_neg {a b : I3} : cmpR a b < 0 ↔ lessR a b = true := by
  rw [← lessC_R]
  unfold lessC
  rw [decide_eq_true_eq]
def plM (l : List Mk) (m : Mk) : Nat := plI (idsK l) m.i
theorem plM_le (l : List Mk) (m : Mk) : plM l m ≤ l.length := by have := plI_le (idsK l) m.i; rw [List.length_map] at this; exact this
theorem plM_lt {l : List Mk} {m : Mk} (h : okI (idsK l)) {k : Nat} (hk : k < l.length) (h1 : k < plM l m) : cmpR l[k].i m.i < 0 := by
  rw [cmp_neg, ← gIM hk]
  exact (h.split m.i).1 k h1
theorem plM_ge {l : List Mk} {m : Mk} (h : okI (idsK l)) {k : Nat} (hk : k < l.length) (h1 : plM l m ≤ k) : ¬ cmpR l[k].i m.i < 0 := by
  rw [cmp_neg, ← gIM hk]
  have := (h.split m.i).2 k h1 (by rw [List.length_map]; exact hk)
  rw [this]; decide
theorem plM_mem {l : List Mk} {m : Mk} (h : okI (idsK l)) : m.i ∈ idsK l ↔ ∃ hk : plM l m < l.length, cmpR (l[plM l m]).i m.i = 0 := by
  show m.i ∈ idsK l ↔ ∃ hk : plI (idsK l) m.i < l.length, cmpR (l[plI (idsK l) m.i]).i m.i = 0
  rw [h.mem m.i, List.length_map]
  constructor
  · rintro ⟨h1, h2⟩
    exact ⟨h1, by rw [cmp_zero, ← gIM h1]; exact h2⟩
  · rintro ⟨h1, h2⟩
    exact ⟨h1, by rw [cmp_zero, ← gIM h1] at h2; exact h2⟩
set_option maxRecDepth 4000 in
set_option maxHeartbeats 1000000 in
theorem bsf_d (l : List Mk) (h : l.length ≤ 5000) (m : Mk) (hs : okI (idsK l)) : DFun Try.prog 65 [.slm 4 (l).length ((l).flatMap mkC), .agg (mkC m), .fn (.func 66) [] []] [] (.tup [.val (.int .i64 (plM l m : Int)), .val (.bool (decide (m.i ∈ idsK l)))]) [] := by
  have hp := plM_le l m
  refine zao (N := 49) 0 (by kernel_rfl) Try.func65 rfl rfl rfl (by simp only [fr0, Nat.zero_add, Nat.reduceAdd]; exact rfl) rfl fun s0 hs0 => ?_
  refine dwp_lenm (t := 0) rfl fun hl0 hL0 => ?_
  refine zae ?_
  refine zak 1 (by simp only [holes, List.cons_append, List.nil_append]; exact rfl) ?_
  refine zad ?_
  refine zan rfl rfl rfl (op_boxam 0 rfl (ev1 rfl) rfl) (by simp only [upd, za, zaa]; exact rfl) ?_
  refine zab rfl rfl rfl (zac (.inr rfl) (ev1 rfl)) ?_
  refine zab rfl rfl rfl (zac (.inr rfl) (ev1 rfl)) ?_
  refine zaf ?_
  refine zae ?_
  refine zad ?_
  refine zab rfl rfl rfl (zac (.inl rfl) (ev1 rfl)) ?_
  refine zab rfl rfl rfl (op_lenm rfl sl26 (ev1 rfl)) ?_
  refine zab rfl rfl rfl (zac (.inr rfl) (ev1 rfl)) ?_
  refine zaf ?_
  refine zae ?_
  refine zad ?_
  refine zab rfl rfl rfl (zac (.inl rfl) (ev1 rfl)) ?_
  refine zab rfl rfl rfl (zac (.inr rfl) (ev1 rfl)) ?_
  refine zab rfl rfl rfl (zac (.inr rfl) (ev1 rfl)) ?_
  refine zaf ?_
  refine zae ?_
  refine zam ?_
  refine dwp_loopS ⟨hs0, rfl⟩ (α := Nat × Nat) (fun x => [(9, .val (.int .i64 (x.1 : Int))), (10, .val (.int .i64 (x.2 : Int)))]) [(0, _), (2, _), (4, _), (8, _)] (fun x => []) [_] (fun x => x.1 ≤ plM l m ∧ plM l m ≤ x.2 ∧ x.2 ≤ l.length) (fun x => x.2 - x.1) (0, l.length) [0] (⟨Nat.zero_le _, hp, Nat.le_refl _⟩) rfl ⟨rfl, rfl, rfl, rfl, trivial⟩ ⟨rfl, rfl, trivial⟩ ⟨rfl, trivial⟩ ?_
  intro x hx
  simp only [upd, za, zaa, List.cons_append, List.nil_append]
  obtain ⟨hx1, hx2, hx3⟩ := hx
  refine zae ?_
  refine zae ?_
  refine zad ?_
  refine zab rfl rfl rfl (zac (.inl rfl) (ev1 rfl)) ?_
  refine zab rfl rfl rfl (zac (.inl rfl) (ev1 rfl)) ?_
  refine zab rfl rfl rfl (op_lss rfl (ev1 rfl) (ev1 rfl)) ?_
  refine zaf ?_
  refine dwp_cond rfl (fun c1 => ?_) (fun c1 => ?_)
  · try simp only [decide_eq_true_eq, decide_eq_false_iff_not, beq_iff_eq, bne_iff_ne, beq_eq_false_iff_ne, bne_eq_false_iff_eq, Bool.not_eq_true', Bool.not_eq_false', Bool.and_eq_true, Bool.or_eq_true, Bool.or_eq_false_iff, ne_eq, Decidable.not_not, Int.not_lt, Int.not_le] at c1
    refine zal ?_
    refine zam ?_
    refine zae ?_
    refine zad ?_
    refine zab rfl rfl rfl (zac (.inl rfl) (ev1 rfl)) ?_
    refine zab rfl rfl rfl (zac (.inl rfl) (ev1 rfl)) ?_
    refine zab rfl rfl rfl (op_add' rfl (ev1 rfl) (ev1 rfl) (fun _ => IntWalk.i64_in _ (by omega))) ?_
    refine zab rfl rfl rfl (op_conv' ty3 kn65 rfl (ev1 rfl) (fun _ => IntWalk.u64_in _ (by omega))) ?_
    refine zab rfl rfl rfl ((op_shr (1) rfl (ev1 rfl) (ev1 rfl) (fun _ => ⟨rfl, by decide⟩)).cast (d' := .val (.int .u64 ((((x.1 + x.2) / 2) : Nat) : Int))) (by rw [show ((x.1 : Int) + (x.2 : Int)) / 2 ^ 1 = ((((x.1 + x.2) / 2) : Nat) : Int) by omega])) ?_
    refine zab rfl rfl rfl (op_conv' ty65 kn3 rfl (ev1 rfl) (fun _ => IntWalk.i64_in _ (by omega))) ?_
    refine zab rfl rfl rfl (zac (.inr rfl) (ev1 rfl)) ?_
    refine zaf ?_
    refine zae ?_
    have hml : ((x.1 + x.2) / 2) < l.length := by omega
    refine dwp_draw [([], []), ([], []), ([], []), ([], []), ([], []), ([0], []), ([], []), ([], [])] mixed (by kernel_rfl) ?_
    refine zag rfl rfl (zac (.inl rfl) (ev1 rfl)) ?_
    refine zag rfl rfl (zac (.inl rfl) (ev1 rfl)) ?_
    refine zag rfl rfl (zac (.inl rfl) (ev1 rfl)) ?_
    refine zag rfl rfl (op_ixmr (((x.1 + x.2) / 2)) (by decide) rfl sl26 (ev1 rfl) (ev1 rfl) (fun _ => rfl) (by omega) (fun _ => rfl)) ?_
    refine zag rfl rfl (op_lddr rfl tb44 (ev1 rfl) rfl rfl) ?_
    refine zag rfl rfl (op_ldmw rfl tb44 (ev1 rfl) rfl rfl) ?_
    refine zag rfl rfl (zah [] [] [] rfl (ev1 rfl) (ec (ev1 rfl) (ec (ev1 rfl) en)) rfl rfl (put1_d l[((x.1 + x.2) / 2)] m) rfl rfl rfl rfl rfl rfl) ?_
    refine zag rfl rfl (op_lss rfl (ev1 rfl) (ev1 rfl)) ?_
    refine lex_nil ?_
    refine dwp_cond rfl (fun c2 => ?_) (fun c2 => ?_)
    · have hmp : ((x.1 + x.2) / 2) + 1 ≤ plM l m := by
        rcases Nat.lt_or_ge ((x.1 + x.2) / 2) (plM l m) with g | g
        · exact g
        · exact absurd (by simpa using c2) (plM_ge hs hml g)
      refine zad ?_
      refine zab rfl rfl rfl (zac (.inl rfl) (ev1 rfl)) ?_
      refine zab rfl rfl rfl (op_add' rfl (ev1 rfl) (ev1 rfl) (fun _ => IntWalk.i64_in _ (by omega))) ?_
      refine zab rfl rfl rfl (zac (.inr rfl) (ev1 rfl)) ?_
      refine zaf ?_
      refine ⟨(((x.1 + x.2) / 2) + 1, x.2), [0], ⟨hmp, hx2, hx3⟩, by simp only []; omega, rfl, ⟨rfl, rfl, rfl, rfl, rfl, rfl, trivial⟩, ⟨rfl, trivial⟩⟩
    · have hmp : plM l m ≤ ((x.1 + x.2) / 2) := by
        rcases Nat.lt_or_ge ((x.1 + x.2) / 2) (plM l m) with g | g
        · have := plM_lt hs hml g
          simp at c2
          omega
        · exact g
      refine zad ?_
      refine zab rfl rfl rfl (zac (.inl rfl) (ev1 rfl)) ?_
      refine zab rfl rfl rfl (zac (.inr rfl) (ev1 rfl)) ?_
      refine zaf ?_
      refine ⟨(x.1, ((x.1 + x.2) / 2)), [0], ⟨hx1, hmp, by omega⟩, by simp only []; omega, rfl, ⟨rfl, rfl, rfl, rfl, rfl, rfl, trivial⟩, ⟨rfl, trivial⟩⟩
  · try simp only [decide_eq_true_eq, decide_eq_false_iff_not, beq_iff_eq, bne_iff_ne, beq_eq_false_iff_ne, bne_eq_false_iff_eq, Bool.not_eq_true', Bool.not_eq_false', Bool.and_eq_true, Bool.or_eq_true, Bool.or_eq_false_iff, ne_eq, Decidable.not_not, Int.not_lt, Int.not_le] at c1
    refine dwp_exit ?_
    refine zae ?_
    by_cases hlt : plM l m < l.length
    · have hxp : x.1 = plM l m := by omega
      have hx1l : x.1 < l.length := by omega
      refine dwp_draw [([], []), ([], []), ([], []), ([], []), ([], []), ([], []), ([], []), ([], []), ([], []), ([], []), ([0], []), ([], []), ([], []), ([], []), ([], []), ([], [])] mixed (by kernel_rfl) ?_
      refine zag rfl rfl (zac (.inl rfl) (ev1 rfl)) ?_
      refine zag rfl rfl (zac (.inl rfl) (ev1 rfl)) ?_
      refine zag rfl rfl (zac (.inl rfl) (ev1 rfl)) ?_
      refine zag rfl rfl (op_lss rfl (ev1 rfl) (ev1 rfl)) ?_
      refine zag rfl rfl (zac (.inl rfl) (ev1 rfl)) ?_
      refine zai (gd_t rfl rfl rfl) rfl rfl (zac (.inl rfl) (ev1 rfl)) ?_
      refine zai (gd_t rfl rfl rfl) rfl rfl (zac (.inl rfl) (ev1 rfl)) ?_
      refine zai (gd_t rfl rfl rfl) rfl rfl (zac (.inl rfl) (ev1 rfl)) ?_
      refine zai (gd_t rfl rfl rfl) rfl rfl (op_ixmr (x.1) (by decide) rfl sl26 (ev2 rfl) (ev2 rfl) (fun _ => rfl) (by omega) (fun _ => rfl)) ?_
      refine zai (gd_t rfl rfl rfl) rfl rfl (op_lddr rfl tb44 (ev2 rfl) rfl rfl) ?_
      refine zai (gd_t rfl rfl rfl) rfl rfl (op_ldmw rfl tb44 (ev1 rfl) rfl rfl) ?_
      refine zai (gd_t rfl rfl rfl) rfl rfl (zah [] [] [] rfl (ev2 rfl) (ec (ev2 rfl) (ec (ev2 rfl) en)) rfl rfl (put1_d l[x.1] m) rfl rfl rfl rfl rfl rfl) ?_
      refine zai (gd_t rfl rfl rfl) rfl rfl (op_eql rfl (ev2 rfl) (ev1 rfl)) ?_
      refine zag rfl rfl (op_and rfl (ev1 rfl) (ev3 rfl id)) ?_
      refine zag rfl rfl (zac (.inr rfl) (ev1 rfl)) ?_
      refine zag rfl rfl (zac (.inr rfl) (ev1 rfl)) ?_
      refine lex_nil ?_
      refine dwp_ret ?_
      refine kend0 (rs2 rfl (rv_t rfl) (rv_t rfl)) rfl ?_
      obtain ⟨x1, x2⟩ := x
      dsimp only at hxp hx1l ⊢
      subst hxp
      have e : decide (m.i ∈ idsK l) = decide (cmpR l[plM l m].i m.i = 0) := by
        rw [Bool.eq_iff_iff, decide_eq_true_eq, decide_eq_true_eq, plM_mem hs]
        exact ⟨fun ⟨_, g⟩ => g, fun g => ⟨hlt, g⟩⟩
      rw [e]
      have e2 : decide ((plM l m : Int) < (l.length : Int)) = true := decide_eq_true (by omega)
      rw [e2, Bool.true_and]
      congr 5
    · have hxp : x.1 = plM l m := by omega
      refine dwp_draw [([], []), ([], []), ([], []), ([], []), ([], []), ([], []), ([], []), ([], []), ([], []), ([], []), ([], []), ([], []), ([], []), ([], []), ([], []), ([], [])] mixed (by kernel_rfl) ?_
      refine zag rfl rfl (zac (.inl rfl) (ev1 rfl)) ?_
      refine zag rfl rfl (zac (.inl rfl) (ev1 rfl)) ?_
      refine zag rfl rfl (zac (.inl rfl) (ev1 rfl)) ?_
      refine zag rfl rfl ((op_lss rfl (ev1 rfl) (ev1 rfl)).cast (d' := .val (.bool false)) (by rw [decide_eq_false (by omega)])) ?_
      refine zag rfl rfl (zac (.inl rfl) (ev1 rfl)) ?_
      refine zai (gd_t (b := false) rfl rfl rfl) rfl rfl (dop_never (d := .junk)) ?_
      refine zai (gd_t (b := false) rfl rfl rfl) rfl rfl (dop_never (d := .junk)) ?_
      refine zai (gd_t (b := false) rfl rfl rfl) rfl rfl (dop_never (d := .junk)) ?_
      refine zai (gd_t (b := false) rfl rfl rfl) rfl rfl (dop_never (d := .junk)) ?_
      refine zai (gd_t (b := false) rfl rfl rfl) rfl rfl (dop_never (d := .junk)) ?_
      refine zai (gd_t (b := false) rfl rfl rfl) rfl rfl (dop_never (d := .junk)) ?_
      refine zai (gd_t (b := false) rfl rfl rfl) rfl rfl (dop_never (d := .junk)) ?_
      refine zai (gd_t (b := false) rfl rfl rfl) rfl rfl (dop_never (d := .val (.bool false))) ?_
      refine zag rfl rfl (op_and rfl (ev1 rfl) (ev3 rfl id)) ?_
      refine zag rfl rfl (zac (.inr rfl) (ev1 rfl)) ?_
      refine zag rfl rfl (zac (.inr rfl) (ev1 rfl)) ?_
      refine lex_nil ?_
      refine dwp_ret ?_
      refine kend0 (rs2 rfl (rv_t rfl) (rv_t rfl)) rfl ?_
      have e : decide (m.i ∈ idsK l) = false := by
        rw [decide_eq_false_iff_not, plM_mem hs]
        rintro ⟨g, _⟩
        exact hlt g
      rw [e, hxp]
      rfl
set_option maxRecDepth 4000 in
set_option maxHeartbeats 1000000 in
theorem clos_d (l : List Mk) (h : l.length ≤ 5000) (hs : okI (idsK l)) : DFun Try.prog 68 [.loc 0 0] [.mix 74 [.slm 4 (l).length ((l).flatMap mkC)]] (.val (.int .i64 (closI (idsK l) : Int))) [.mix 74 [.slm 4 (l).length ((l).flatMap mkC)]] := by
  have hil : (idsK l).length = l.length := List.length_map _
  refine zao (N := 48) 1 (by kernel_rfl) Try.func68 rfl rfl rfl (by simp only [fr0, Nat.zero_add, Nat.reduceAdd]; exact rfl) rfl fun s0 hs0 => ?_
  refine zae ?_
  refine zad ?_
  refine zab rfl rfl rfl (zac (.inr rfl) (ev1 rfl)) ?_
  refine zaf ?_
  refine zae ?_
  refine zad ?_
  refine zab rfl rfl rfl (zac (.inr rfl) (ev1 rfl)) ?_
  refine zab rfl rfl rfl (zac (.inr rfl) (ev1 rfl)) ?_
  refine zaf ?_
  refine zae ?_
  refine zae ?_
  refine zad ?_
  refine zab rfl rfl rfl (zac (.inr rfl) (ev1 rfl)) ?_
  refine zaf ?_
  refine zam ?_
  refine dwp_loopS ⟨hs0, rfl⟩ (α := Nat) (fun k => [(3, .val (.int .i64 (clN (gapI (idsK l)) k : Int))), (4, .val (.int .u64 (if k = 0 then 0 else gapI (idsK l) (clN (gapI (idsK l)) k)))), (5, .val (.int .i64 ((k + 1 : Nat) : Int)))]) [(0, _)] (fun k => []) [_] (fun k => k + 2 ≤ l.length ∨ k = 0) (fun k => l.length - k) 0 [0] (.inr rfl) rfl ⟨rfl, trivial⟩ ⟨rfl, rfl, rfl, trivial⟩ ⟨rfl, trivial⟩ ?_
  intro k hx
  simp only [upd, za, zaa, List.cons_append, List.nil_append]
  have hk := hx
  have hcl := clN_le (gapI (idsK l)) k
  refine zae ?_
  refine zae ?_
  refine zad ?_
  refine zab rfl rfl rfl (zac (.inl rfl) (ev1 rfl)) ?_
  refine zab rfl rfl rfl (zac (.inl rfl) (ev1 rfl)) ?_
  refine zab rfl rfl rfl (op_nc rfl (ev1 rfl) (fun s v h => by cases h; exact ⟨_, rfl⟩)) ?_
  refine zab rfl rfl rfl (op_fa rfl fo74_0 (ev1 rfl)) ?_
  refine zab rfl rfl rfl (op_ldm rfl tb26 (ev1 rfl) rfl rfl) ?_
  refine zab rfl rfl rfl (op_lenm rfl sl26 (ev1 rfl)) ?_
  refine zab rfl rfl rfl (op_sub' rfl (ev1 rfl) (ev1 rfl) (fun _ => IntWalk.i64_in _ (by omega))) ?_
  refine zab rfl rfl rfl (op_lss rfl (ev1 rfl) (ev1 rfl)) ?_
  refine zaf ?_
  refine dwp_cond rfl (fun c1 => ?_) (fun c1 => ?_)
  · try simp only [decide_eq_true_eq, decide_eq_false_iff_not, beq_iff_eq, bne_iff_ne, beq_eq_false_iff_ne, bne_eq_false_iff_eq, Bool.not_eq_true', Bool.not_eq_false', Bool.and_eq_true, Bool.or_eq_true, Bool.or_eq_false_iff, ne_eq, Decidable.not_not, Int.not_lt, Int.not_le] at c1
    refine zal ?_
    refine zae ?_
    refine zam ?_
    refine zae ?_
    have hkl : k + 2 < l.length := by omega
    have hg1 := gIM (l := l) (k := k + 1 + 1) (by omega)
    have hg2 := gIM (l := l) (k := k + 1 - 1) (by omega)
    have hgt := hs.t (a := k + 1 - 1) (b := k + 1 + 1) (by omega) (by omega)
    rw [hg1, hg2] at hgt
    have hgp : gapI (idsK l) (k + 1) = (l[k + 1 + 1]).i.t - (l[k + 1 - 1]).i.t := by unfold gapI; rw [hg1, hg2]
    refine dwp_draw [([], []), ([], []), ([], []), ([0], []), ([], []), ([], []), ([], []), ([], []), ([], []), ([], []), ([], []), ([], []), ([], []), ([0], []), ([], []), ([], []), ([], []), ([], []), ([], []), ([], []), ([], []), ([], [])] mixed (by kernel_rfl) ?_
    refine zag rfl rfl (zac (.inl rfl) (ev1 rfl)) ?_
    refine zag rfl rfl (op_nc rfl (ev1 rfl) (fun s v h => by cases h; exact ⟨_, rfl⟩)) ?_
    refine zag rfl rfl (op_fa rfl fo74_0 (ev1 rfl)) ?_
    refine zag rfl rfl (op_ldm rfl tb26 (ev1 rfl) rfl rfl) ?_
    refine zag rfl rfl (zac (.inl rfl) (ev1 rfl)) ?_
    refine zag rfl rfl (op_add' rfl (ev1 rfl) (ev1 rfl) (fun _ => IntWalk.i64_in _ (by omega))) ?_
    refine zag rfl rfl (op_ixmr (k + 1 + 1) (by decide) rfl sl26 (ev1 rfl) (ev1 rfl) (fun _ => rfl) (by omega) (fun _ => rfl)) ?_
    refine zag rfl rfl (op_fadm rfl fo44_0 (ev1 rfl)) ?_
    refine zag rfl rfl (op_fadm rfl fo35_0 (ev1 rfl)) ?_
    refine zag rfl rfl (op_lddm rfl tb33 (ev1 rfl) rfl) ?_
    refine zag rfl rfl (zac (.inl rfl) (ev1 rfl)) ?_
    refine zag rfl rfl (op_nc rfl (ev1 rfl) (fun s v h => by cases h; exact ⟨_, rfl⟩)) ?_
    refine zag rfl rfl (op_fa rfl fo74_0 (ev1 rfl)) ?_
    refine zag rfl rfl (op_ldm rfl tb26 (ev1 rfl) rfl rfl) ?_
    refine zag rfl rfl (zac (.inl rfl) (ev1 rfl)) ?_
    refine zag rfl rfl (op_sub' rfl (ev1 rfl) (ev1 rfl) (fun _ => IntWalk.i64_in _ (by omega))) ?_
    refine zag rfl rfl (op_ixmr (k + 1 - 1) (by decide) rfl sl26 (ev1 rfl) (ev1 rfl) (fun _ => by omega) (by omega) (fun _ => rfl)) ?_
    refine zag rfl rfl (op_fadm rfl fo44_0 (ev1 rfl)) ?_
    refine zag rfl rfl (op_fadm rfl fo35_0 (ev1 rfl)) ?_
    refine zag rfl rfl (op_lddm rfl tb33 (ev1 rfl) rfl) ?_
    refine zag rfl rfl ((op_sub' rfl (ev1 rfl) (ev1 rfl) (fun _ => IntWalk.u64_in _ (by omega))).cast (d' := .val (.int .u64 (gapI (idsK l) (k + 1)))) (by rw [hgp])) ?_
    refine zag rfl rfl (zac (.inr rfl) (ev1 rfl)) ?_
    refine lex_nil ?_
    refine zae ?_
    refine zad ?_
    refine zab rfl rfl rfl (zac (.inl rfl) (ev1 rfl)) ?_
    refine zab rfl rfl rfl (op_eql rfl (ev1 rfl) (ev1 rfl)) ?_
    refine zab rfl rfl rfl (zac (.inl rfl) (ev1 rfl)) ?_
    refine zaj (gd_f rfl rfl rfl) rfl rfl rfl (zac (.inl rfl) (ev1 rfl)) ?_
    refine zaj (gd_f rfl rfl rfl) rfl rfl rfl (zac (.inl rfl) (ev1 rfl)) ?_
    refine zaj (gd_f rfl rfl rfl) rfl rfl rfl (op_lss rfl (ev2 rfl) (ev2 rfl)) ?_
    refine zab rfl rfl rfl (op_or rfl (ev1 rfl) (ev3 rfl id)) ?_
    refine zaf ?_
    refine dwp_cond rfl (fun c3 => ?_) (fun c3 => ?_)
    · have c4 : clN (gapI (idsK l)) k = 0 ∨ gapI (idsK l) (k + 1) < gapI (idsK l) (clN (gapI (idsK l)) k) := by
        by_cases h0 : k = 0
        · subst h0; exact .inl rfl
        · rw [if_neg h0] at c3
          simp at c3
          exact c3
      refine zad ?_
      refine zab rfl rfl rfl (zac (.inl rfl) (ev1 rfl)) ?_
      refine zab rfl rfl rfl (zac (.inl rfl) (ev1 rfl)) ?_
      refine zab rfl rfl rfl (zac (.inr rfl) (ev1 rfl)) ?_
      refine zab rfl rfl rfl (zac (.inr rfl) (ev1 rfl)) ?_
      refine zaf ?_
      refine zad ?_
      refine zab rfl rfl rfl (zac (.inl rfl) (ev1 rfl)) ?_
      refine zab rfl rfl rfl (op_add' rfl (ev1 rfl) (ev1 rfl) (fun _ => IntWalk.i64_in _ (by omega))) ?_
      refine zab rfl rfl rfl (zac (.inr rfl) (ev1 rfl)) ?_
      refine zaf ?_
      refine ⟨k + 1, [0], .inl (by omega), by simp only []; omega, rfl, ⟨by rw [clN, if_pos c4]; rfl, by rw [clN, if_pos c4, if_neg (Nat.succ_ne_zero _)]; rfl, rfl, rfl, trivial⟩, ⟨rfl, trivial⟩⟩
    · have c4 : ¬ (clN (gapI (idsK l)) k = 0 ∨ gapI (idsK l) (k + 1) < gapI (idsK l) (clN (gapI (idsK l)) k)) := by
        by_cases h0 : k = 0
        · subst h0
          simp [clN] at c3
        · rw [if_neg h0] at c3
          simp at c3
          omega
      refine zal ?_
      refine zad ?_
      refine zab rfl rfl rfl (zac (.inl rfl) (ev1 rfl)) ?_
      refine zab rfl rfl rfl (op_add' rfl (ev1 rfl) (ev1 rfl) (fun _ => IntWalk.i64_in _ (by omega))) ?_
      refine zab rfl rfl rfl (zac (.inr rfl) (ev1 rfl)) ?_
      refine zaf ?_
      refine ⟨k + 1, [0], .inl (by omega), by simp only []; omega, rfl, ⟨by rw [clN, if_neg c4]; rfl, by rw [clN, if_neg c4, if_neg (Nat.succ_ne_zero _), if_neg (by intro e; exact c4 (.inl (by rw [e]; rfl)))]; rfl, rfl, rfl, trivial⟩, ⟨rfl, trivial⟩⟩
  · try simp only [decide_eq_true_eq, decide_eq_false_iff_not, beq_iff_eq, bne_iff_ne, beq_eq_false_iff_ne, bne_eq_false_iff_eq, Bool.not_eq_true', Bool.not_eq_false', Bool.and_eq_true, Bool.or_eq_true, Bool.or_eq_false_iff, ne_eq, Decidable.not_not, Int.not_lt, Int.not_le] at c1
    refine dwp_exit ?_
    refine zae ?_
    refine zad ?_
    refine zab rfl rfl rfl (zac (.inl rfl) (ev1 rfl)) ?_
    refine zab rfl rfl rfl (zac (.inr rfl) (ev1 rfl)) ?_
    refine zaf ?_
    refine dwp_ret ?_
    have e : closI (idsK l) = clN (gapI (idsK l)) k := by
      unfold closI
      rw [hil]
      rcases hk with hk | hk
      · rw [show l.length - 2 = k by omega]
      · subst hk
        rw [show l.length - 2 = 0 by omega]
    rw [e]
    refine kend [0] (rs1 rfl (rv_t rfl)) rfl rfl ?_ ⟨rfl, trivial⟩
    rfl
set_option maxRecDepth 4000 in
set_option maxHeartbeats 1000000 in
theorem leave_d (l : List Mk) (h : l.length ≤ 5000) (k : Nat) (hk : k + 1 < l.length) : DFun Try.prog 67 [.loc 0 0, .val (.int .i64 (k : Int))] [.mix 74 [.slm 4 (l).length ((l).flatMap mkC)]] (.tup []) [.mix 74 [.arr 1], .arx 44 4 ((l.take k ++ l.drop (k + 1))).length (((l.take k ++ l.drop (k + 1))).flatMap mkC)] := by
  refine zao (N := 22) 1 (by kernel_rfl) Try.func67 rfl rfl rfl (by simp only [fr0, Nat.zero_add, Nat.reduceAdd]; exact rfl) rfl fun s0 hs0 => ?_
  refine zak 1 (by simp only [holes, List.cons_append, List.nil_append]; exact rfl) ?_
  refine dwp_draw [([], []), ([], []), ([], []), ([], []), ([0], []), ([], []), ([], []), ([], []), ([], []), ([], []), ([], []), ([0], []), ([], []), ([], []), ([], []), ([1], [1]), ([], []), ([], []), ([0], [0])] mixed (by kernel_rfl) ?_
  refine zag rfl rfl (zac (.inl rfl) (ev1 rfl)) ?_
  refine zag rfl rfl (zac (.inl rfl) (ev1 rfl)) ?_
  refine zag rfl rfl (op_nc rfl (ev1 rfl) (fun s v h => by cases h; exact ⟨_, rfl⟩)) ?_
  refine zag rfl rfl (op_fa rfl fo74_0 (ev1 rfl)) ?_
  refine zag rfl rfl (op_ldm rfl tb26 (ev1 rfl) rfl rfl) ?_
  refine zag rfl rfl (zac (.inl rfl) (ev1 rfl)) ?_
  refine zag rfl rfl (zac (.inl rfl) (ev1 rfl)) ?_
  refine zag rfl rfl (op_sl3mc (j := k) rfl sl26 (ev1 rfl) (ev1 rfl) (ev1 rfl) (fun hp => by first | omega | (simp at hp; omega)) (fun hp => by first | omega | (simp at hp; omega)) (fun hp => by first | omega | (simp at hp; omega)) (fun _ => rfl)) ?_
  refine zag rfl rfl (zac (.inl rfl) (ev1 rfl)) ?_
  refine zag rfl rfl (op_nc rfl (ev1 rfl) (fun s v h => by cases h; exact ⟨_, rfl⟩)) ?_
  refine zag rfl rfl (op_fa rfl fo74_0 (ev1 rfl)) ?_
  refine zag rfl rfl (op_ldm rfl tb26 (ev1 rfl) rfl rfl) ?_
  refine zag rfl rfl (zac (.inl rfl) (ev1 rfl)) ?_
  refine zag rfl rfl (op_add' rfl (ev1 rfl) (ev1 rfl) (fun _ => IntWalk.i64_in _ (by omega))) ?_
  refine zag rfl rfl (op_slmdr (i := k + 1) rfl sl26 (ev1 rfl) (bd_some (ev1 rfl)) (fun _ => by omega) (fun _ => by omega) (fun _ => rfl)) ?_
  refine lex_w rfl rfl (op_apcm 1 rfl sl26 zr44 rfl (ev1 rfl) (ev1 rfl) rfl (by decide) (fun _ => ⟨by rw [List.length_drop]; omega, by rw [List.length_take, List.length_drop]; omega, by rw [List.length_take, List.length_drop]; omega⟩)) rfl (by simp only [upd, za, zaa]; exact rfl) ?_
  refine zag rfl rfl (op_nc rfl (ev1 rfl) (fun s v h => by cases h; exact ⟨_, rfl⟩)) ?_
  refine zag rfl rfl (op_fa rfl fo74_0 (ev1 rfl)) ?_
  refine lex_s rfl rfl (op_stm rfl tb26 (ev1 rfl) (ev1 rfl) (fun s v h => by cases h <;> exact ⟨rfl, rfl⟩) rfl (by first | decide | exact Nat.le_of_ble_eq_true rfl | simp)) rfl (by simp only [upd, za, zaa]; exact rfl) ?_
  refine lex_nil ?_
  refine kend [0, 1] (res_none rfl) rfl rfl ?_ ⟨?_, ?_, trivial⟩
  rfl
  exact rfl
  exact arxr_fits (by rw [List.length_append]) (by rw [List.flatMap_append]) (mk_nl _)
abbrev insM (l : List Mk) (m : Mk) : List Mk := insK Mk.i l m
abbrev ptM (l : List Mk) (m : Mk) : List Mk := putK Mk.i l m
theorem insM_in {l : List Mk} {m : Mk} (h : m.i ∈ idsK l) : insM l m = l.take (plM l m) ++ m :: l.drop (plM l m + 1) := by unfold insM insK; rw [if_pos h]; rfl
theorem insM_no {l : List Mk} {m : Mk} (h : m.i ∉ idsK l) : insM l m = l.take (plM l m) ++ m :: l.drop (plM l m) := by unfold insM insK; rw [if_neg h]; rfl
theorem ptM_le {l : List Mk} {m : Mk} (h : (insM l m).length ≤ 6) : ptM l m = insM l m := by unfold ptM putK lessK; rw [if_neg (by unfold insM at h; omega)]
theorem ptM_gt {l : List Mk} {m : Mk} (h : 6 < (insM l m).length) : ptM l m = (insM l m).take (closI (idsK (insM l m))) ++ (insM l m).drop (closI (idsK (insM l m)) + 1) := by unfold ptM putK lessK; rw [if_pos h]
theorem insM_ids (l : List Mk) (m : Mk) : idsK (insM l m) = insK id (idsK l) m.i := insK_map (key := Mk.i) (key2 := id) (f := Mk.i) (fun _ => rfl) l m
theorem ptM_ids (l : List Mk) (m : Mk) : idsK (ptM l m) = putK id (idsK l) m.i := putK_map (key := Mk.i) (key2 := id) (f := Mk.i) (fun _ => rfl) l m
theorem row3 {l r : List Mk} {m : Mk} {p q n : Nat} {L : List D} (he : r = l.take p ++ m :: l.drop q) (hn : n = 0 + (l.take p).length + 1 + (l.drop q).length) (hL : L = (l.take p).flatMap mkC ++ [D.agg (mkC m)].flatMap D.cs ++ (l.drop q).flatMap mkC) : n = r.length ∧ L = r.flatMap mkC := by
  subst he hn hL
  constructor
  · simp; omega
  · rw [List.flatMap_append, List.flatMap_cons, List.append_assoc]; rfl
set_option maxRecDepth 4000 in
set_option maxHeartbeats 1000000 in
theorem put_d (l : List Mk) (h : l.length ≤ 6) (m : Mk) (hs : okI (idsK l)) (hm0 : isMk m = true) : DFun Try.prog 46 [.loc 0 0, .agg (mkC m)] [.mix 74 [.slm 4 (l).length ((l).flatMap mkC)]] (.tup []) [.mix 74 [.arr 1], .arx 44 4 ((ptM l m)).length (((ptM l m)).flatMap mkC)] := by
  have hp := plM_le l m
  have hoi := hs.ins hm0
  rw [← insM_ids] at hoi
  have hil : (insM l m).length ≤ 7 := by
    have h1 := ins_len hs m.i
    rw [← insM_ids, List.length_map, List.length_map] at h1
    split at h1 <;> omega
  refine zao (N := 62) 1 (by kernel_rfl) Try.func46 rfl rfl rfl (by simp only [fr0, Nat.zero_add, Nat.reduceAdd]; exact rfl) rfl fun s0 hs0 => ?_
  refine zae ?_
  refine zak 1 (by simp only [holes, List.cons_append, List.nil_append]; exact rfl) ?_
  refine zad ?_
  refine zan rfl rfl rfl (op_boxam 1 rfl (ev1 rfl) rfl) (by simp only [upd, za, zaa]; exact rfl) ?_
  refine zaf ?_
  refine zae ?_
  refine dwp_draw [([], []), ([], []), ([], []), ([0], []), ([1], []), ([], []), ([], []), ([], []), ([], []), ([], []), ([], [])] mixed (by kernel_rfl) ?_
  refine zag rfl rfl (zac (.inl rfl) (ev1 rfl)) ?_
  refine zag rfl rfl (op_nc rfl (ev1 rfl) (fun s v h => by cases h; exact ⟨_, rfl⟩)) ?_
  refine zag rfl rfl (op_fa rfl fo74_0 (ev1 rfl)) ?_
  refine zag rfl rfl (op_ldm rfl tb26 (ev1 rfl) rfl rfl) ?_
  refine zag rfl rfl (op_ldmw rfl tb44 (ev1 rfl) rfl rfl) ?_
  refine zag rfl rfl (zah [] [] [] rfl (ev1 rfl) (ec (ev1 rfl) (ec (ev1 rfl) (ec (ev1 rfl) en))) rfl rfl (bsf_d l (by omega) m hs) rfl rfl rfl rfl rfl rfl) ?_
  refine zag rfl rfl (zac (.inl rfl) (ev1 rfl)) ?_
  refine zag rfl rfl (op_ext rfl (ev1 rfl) rfl) ?_
  refine zag rfl rfl (op_ext rfl (ev1 rfl) rfl) ?_
  refine zag rfl rfl (zac (.inr rfl) (ev1 rfl)) ?_
  refine zag rfl rfl (zac (.inr rfl) (ev1 rfl)) ?_
  refine lex_nil ?_
  refine zae ?_
  refine zad ?_
  refine zab rfl rfl rfl (zac (.inl rfl) (ev1 rfl)) ?_
  refine zab rfl rfl rfl (zac (.inr rfl) (ev1 rfl)) ?_
  refine zaf ?_
  refine zae ?_
  refine zae ?_
  refine zad ?_
  refine zab rfl rfl rfl (zac (.inl rfl) (ev1 rfl)) ?_
  refine zaf ?_
  refine dwp_cond rfl (fun c1 => ?_) (fun c1 => ?_)
  · have hm : m.i ∈ idsK l := by simpa using c1
    refine zad ?_
    refine zab rfl rfl rfl (zac (.inl rfl) (ev1 rfl)) ?_
    refine zab rfl rfl rfl (op_add' rfl (ev1 rfl) (ev1 rfl) (fun _ => IntWalk.i64_in _ (by omega))) ?_
    refine zab rfl rfl rfl (zac (.inr rfl) (ev1 rfl)) ?_
    refine zaf ?_
    refine zae ?_
    refine zak 1 (by simp only [holes, List.cons_append, List.nil_append]; exact rfl) ?_
    refine zad ?_
    refine zab rfl rfl rfl (zac (.inl rfl) (ev1 rfl)) ?_
    refine zab rfl rfl rfl (op_nc rfl (ev1 rfl) (fun s v h => by cases h; exact ⟨_, rfl⟩)) ?_
    refine zab rfl rfl rfl (op_fa rfl fo74_0 (ev1 rfl)) ?_
    refine zab rfl rfl rfl (op_ldm rfl tb26 (ev1 rfl) rfl rfl) ?_
    refine zab rfl rfl rfl (op_lenm rfl sl26 (ev1 rfl)) ?_
    refine zab rfl rfl rfl (op_add' rfl (ev1 rfl) (ev1 rfl) (fun _ => IntWalk.i64_in _ (by omega))) ?_
    refine zan rfl rfl rfl (op_mk0x 2 (l.length + 1) rfl sl26 zr44 (ev1 rfl) (ev1 rfl) (fun _ => rfl) (fun _ => by omega) rfl (fun _ => ⟨by omega, by omega⟩)) (by simp only [upd, za, zaa]; exact rfl) ?_
    refine zab rfl rfl rfl (zac (.inr rfl) (ev1 rfl)) ?_
    refine zaf ?_
    refine zae ?_
    refine zak 1 (by simp only [holes, List.cons_append, List.nil_append]; exact rfl) ?_
    refine zad ?_
    refine zab rfl rfl rfl (zac (.inl rfl) (ev1 rfl)) ?_
    refine zab rfl rfl rfl (zac (.inl rfl) (ev1 rfl)) ?_
    refine zab rfl rfl rfl (op_nc rfl (ev1 rfl) (fun s v h => by cases h; exact ⟨_, rfl⟩)) ?_
    refine zab rfl rfl rfl (op_fa rfl fo74_0 (ev1 rfl)) ?_
    refine zab rfl rfl rfl (op_ldm rfl tb26 (ev1 rfl) rfl rfl) ?_
    refine zab rfl rfl rfl (zac (.inl rfl) (ev1 rfl)) ?_
    refine zab rfl rfl rfl (zac (.inl rfl) (ev1 rfl)) ?_
    refine zab rfl rfl rfl (op_sl3m (j := plM l m) rfl sl26 (ev1 rfl) (ev1 rfl) (ev1 rfl) (fun hp => by first | omega | (simp at hp; omega)) (fun hp => by first | omega | (simp at hp; omega)) (fun hp => by first | omega | (simp at hp; omega)) (fun _ => rfl)) ?_
    refine zan rfl rfl rfl (op_appr (j := 3) rfl sl26 zr44 rfl (ev1 rfl) (ev1 rfl) rfl rfl (mk_oc _) (fun _ => ⟨by rw [List.length_take]; omega, by rw [List.length_take]; omega⟩)) (by simp only [upd, za, zaa]; exact rfl) ?_
    refine zab rfl rfl rfl (zac (.inr rfl) (ev1 rfl)) ?_
    refine zaf ?_
    refine zae ?_
    refine zak 1 (by simp only [holes, List.cons_append, List.nil_append]; exact rfl) ?_
    refine zad ?_
    refine zab rfl rfl rfl (zac (.inl rfl) (ev1 rfl)) ?_
    refine zab rfl rfl rfl (op_ldmw rfl tb44 (ev1 rfl) rfl rfl) ?_
    refine zab rfl rfl rfl (op_bsr (ps := [(0, .tmp 38)]) rfl sl26 zr44 rfl (ec (ev1 rfl) en) rfl rfl rfl (by rfl) rfl (by decide) (by decide)) ?_
    refine zan rfl rfl rfl (op_appr (j := 4) rfl sl26 zr44 rfl (ev1 rfl) (ev1 rfl) rfl rfl (rfl) (fun _ => ⟨by rw [List.length_take]; omega, by rw [List.length_take]; omega⟩)) (by simp only [upd, za, zaa]; exact rfl) ?_
    refine zab rfl rfl rfl (zac (.inr rfl) (ev1 rfl)) ?_
    refine zaf ?_
    refine zae ?_
    have hin := insM_in hm
    have hr3 := row3 (L := _) hin rfl rfl
    have hqb : (plM l m + 1) ≤ l.length := by obtain ⟨g, _⟩ := (plM_mem hs).1 hm; omega
    refine zak 1 (by simp only [holes, List.cons_append, List.nil_append]; exact rfl) ?_
    refine zad ?_
    refine zab rfl rfl rfl (zac (.inl rfl) (ev1 rfl)) ?_
    refine zab rfl rfl rfl (zac (.inl rfl) (ev1 rfl)) ?_
    refine zab rfl rfl rfl (zac (.inl rfl) (ev1 rfl)) ?_
    refine zab rfl rfl rfl (op_nc rfl (ev1 rfl) (fun s v h => by cases h; exact ⟨_, rfl⟩)) ?_
    refine zab rfl rfl rfl (op_fa rfl fo74_0 (ev1 rfl)) ?_
    refine zab rfl rfl rfl (op_ldm rfl tb26 (ev1 rfl) rfl rfl) ?_
    refine zab rfl rfl rfl (zac (.inl rfl) (ev1 rfl)) ?_
    refine zab rfl rfl rfl (op_slmdr (i := (plM l m + 1)) rfl sl26 (ev1 rfl) (bd_some (ev1 rfl)) (fun _ => by omega) (fun _ => by omega) (fun _ => rfl)) ?_
    refine zan rfl rfl rfl (op_appr (j := 5) rfl sl26 zr44 rfl (ev1 rfl) (ev1 rfl) rfl rfl (mk_oc _) (fun _ => ⟨by rw [List.length_take, List.length_drop]; omega, by rw [List.length_take, List.length_drop]; omega⟩)) (by simp only [upd, za, zaa]; exact rfl) ?_
    refine zab rfl rfl rfl (op_nc rfl (ev1 rfl) (fun s v h => by cases h; exact ⟨_, rfl⟩)) ?_
    refine zab rfl rfl rfl (op_fa rfl fo74_0 (ev1 rfl)) ?_
    refine walk_s rfl rfl (op_stm rfl tb26 (ev1 rfl) (ev1 rfl) (fun s v h => by cases h <;> exact ⟨rfl, rfl⟩) rfl (by first | decide | exact Nat.le_of_ble_eq_true rfl | simp)) (by simp only [upd, za, zaa]; exact rfl) ?_
    refine zaf ?_
    refine zae ?_
    refine zad ?_
    refine zab rfl rfl rfl (zac (.inl rfl) (ev1 rfl)) ?_
    refine zab rfl rfl rfl (op_nc rfl (ev1 rfl) (fun s v h => by cases h; exact ⟨_, rfl⟩)) ?_
    refine zab rfl rfl rfl (op_fa rfl fo74_0 (ev1 rfl)) ?_
    refine zab rfl rfl rfl (op_ldm rfl tb26 (ev1 rfl) rfl rfl) ?_
    refine zab rfl rfl rfl (op_lenx rfl sl26 (ev1 rfl) rfl) ?_
    refine zab rfl rfl rfl (op_gtr rfl (ev1 rfl) (ev1 rfl)) ?_
    refine zaf ?_
    refine dwp_cond rfl (fun c2 => ?_) (fun c2 => ?_)
    · have hgt : 6 < (insM l m).length := by
        have h1 := hr3.1
        have h2 := of_decide_eq_true c2
        omega
      refine dwp_givem 0 0 (by rw [hr3.2]; exact mk_nl _) rfl rfl rfl (by simp only [za, zaa]; exact rfl) ?_
      refine dwp_eqB 0 (show Blk.mix 74 [.slm 4 _ _] = Blk.mix 74 [.slm 4 (insM l m).length ((insM l m).flatMap mkC)] from by rw [← hr3.1, ← hr3.2]) rfl (by simp only [List.cons_append, List.nil_append, za, zaa]; exact rfl) ?_
      have hcl : closI (idsK (insM l m)) + 1 < (insM l m).length := by
        have h1 := clN_le (gapI (idsK (insM l m))) ((idsK (insM l m)).length - 2)
        rw [List.length_map] at h1
        unfold closI
        rw [List.length_map]
        omega
      refine zak 1 (by simp only [holes, List.cons_append, List.nil_append]; exact rfl) ?_
      refine zad ?_
      refine zab rfl rfl rfl (zac (.inl rfl) (ev1 rfl)) ?_
      refine zab rfl rfl rfl (zac (.inl rfl) (ev1 rfl)) ?_
      refine zan rfl rfl rfl (zah [0] [] [] rfl (ev1 rfl) (ec (ev1 rfl) en) rfl rfl (clos_d (insM l m) (by omega) hoi) rfl rfl rfl rfl rfl rfl) (by simp only [upd, za, zaa]; exact rfl) ?_
      refine zan rfl rfl rfl (zah [0] [] [6] rfl (ev1 rfl) (ec (ev1 rfl) (ec (ev1 rfl) en)) rfl rfl (leave_d (insM l m) (by omega) (closI (idsK (insM l m))) hcl) rfl rfl rfl (by exact (wrc rfl (wrc (sb_arxr (mk_nl _)) rfl))) rfl rfl) (by simp only [upd, za, zaa]; exact rfl) ?_
      refine zaf ?_
      rw [ptM_gt hgt]
      refine kend [0, 6] (res_none rfl) rfl rfl ?_ ⟨?_, ?_, trivial⟩
      rfl
      exact rfl
      exact arxr_fits rfl rfl (mk_nl _)
    · have hle : (insM l m).length ≤ 6 := by
        have h1 := hr3.1
        have h2 := of_decide_eq_false c2
        omega
      refine zal ?_
      rw [ptM_le hle]
      refine kend [0, 5] (res_none rfl) rfl rfl ?_ ⟨?_, ?_, trivial⟩
      rfl
      exact rfl
      exact arxr_fits hr3.1 hr3.2 (mk_nl _)
  · have hm : m.i ∉ idsK l := by simpa using c1
    refine zal ?_
    refine zae ?_
    refine zak 1 (by simp only [holes, List.cons_append, List.nil_append]; exact rfl) ?_
    refine zad ?_
    refine zab rfl rfl rfl (zac (.inl rfl) (ev1 rfl)) ?_
    refine zab rfl rfl rfl (op_nc rfl (ev1 rfl) (fun s v h => by cases h; exact ⟨_, rfl⟩)) ?_
    refine zab rfl rfl rfl (op_fa rfl fo74_0 (ev1 rfl)) ?_
    refine zab rfl rfl rfl (op_ldm rfl tb26 (ev1 rfl) rfl rfl) ?_
    refine zab rfl rfl rfl (op_lenm rfl sl26 (ev1 rfl)) ?_
    refine zab rfl rfl rfl (op_add' rfl (ev1 rfl) (ev1 rfl) (fun _ => IntWalk.i64_in _ (by omega))) ?_
    refine zan rfl rfl rfl (op_mk0x 2 (l.length + 1) rfl sl26 zr44 (ev1 rfl) (ev1 rfl) (fun _ => rfl) (fun _ => by omega) rfl (fun _ => ⟨by omega, by omega⟩)) (by simp only [upd, za, zaa]; exact rfl) ?_
    refine zab rfl rfl rfl (zac (.inr rfl) (ev1 rfl)) ?_
    refine zaf ?_
    refine zae ?_
    refine zak 1 (by simp only [holes, List.cons_append, List.nil_append]; exact rfl) ?_
    refine zad ?_
    refine zab rfl rfl rfl (zac (.inl rfl) (ev1 rfl)) ?_
    refine zab rfl rfl rfl (zac (.inl rfl) (ev1 rfl)) ?_
    refine zab rfl rfl rfl (op_nc rfl (ev1 rfl) (fun s v h => by cases h; exact ⟨_, rfl⟩)) ?_
    refine zab rfl rfl rfl (op_fa rfl fo74_0 (ev1 rfl)) ?_
    refine zab rfl rfl rfl (op_ldm rfl tb26 (ev1 rfl) rfl rfl) ?_
    refine zab rfl rfl rfl (zac (.inl rfl) (ev1 rfl)) ?_
    refine zab rfl rfl rfl (zac (.inl rfl) (ev1 rfl)) ?_
    refine zab rfl rfl rfl (op_sl3m (j := plM l m) rfl sl26 (ev1 rfl) (ev1 rfl) (ev1 rfl) (fun hp => by first | omega | (simp at hp; omega)) (fun hp => by first | omega | (simp at hp; omega)) (fun hp => by first | omega | (simp at hp; omega)) (fun _ => rfl)) ?_
    refine zan rfl rfl rfl (op_appr (j := 3) rfl sl26 zr44 rfl (ev1 rfl) (ev1 rfl) rfl rfl (mk_oc _) (fun _ => ⟨by rw [List.length_take]; omega, by rw [List.length_take]; omega⟩)) (by simp only [upd, za, zaa]; exact rfl) ?_
    refine zab rfl rfl rfl (zac (.inr rfl) (ev1 rfl)) ?_
    refine zaf ?_
    refine zae ?_
    refine zak 1 (by simp only [holes, List.cons_append, List.nil_append]; exact rfl) ?_
    refine zad ?_
    refine zab rfl rfl rfl (zac (.inl rfl) (ev1 rfl)) ?_
    refine zab rfl rfl rfl (op_ldmw rfl tb44 (ev1 rfl) rfl rfl) ?_
    refine zab rfl rfl rfl (op_bsr (ps := [(0, .tmp 38)]) rfl sl26 zr44 rfl (ec (ev1 rfl) en) rfl rfl rfl (by rfl) rfl (by decide) (by decide)) ?_
    refine zan rfl rfl rfl (op_appr (j := 4) rfl sl26 zr44 rfl (ev1 rfl) (ev1 rfl) rfl rfl (rfl) (fun _ => ⟨by rw [List.length_take]; omega, by rw [List.length_take]; omega⟩)) (by simp only [upd, za, zaa]; exact rfl) ?_
    refine zab rfl rfl rfl (zac (.inr rfl) (ev1 rfl)) ?_
    refine zaf ?_
    refine zae ?_
    have hin := insM_no hm
    have hr3 := row3 (L := _) hin rfl rfl
    have hqb : (plM l m) ≤ l.length := by omega
    refine zak 1 (by simp only [holes, List.cons_append, List.nil_append]; exact rfl) ?_
    refine zad ?_
    refine zab rfl rfl rfl (zac (.inl rfl) (ev1 rfl)) ?_
    refine zab rfl rfl rfl (zac (.inl rfl) (ev1 rfl)) ?_
    refine zab rfl rfl rfl (zac (.inl rfl) (ev1 rfl)) ?_
    refine zab rfl rfl rfl (op_nc rfl (ev1 rfl) (fun s v h => by cases h; exact ⟨_, rfl⟩)) ?_
    refine zab rfl rfl rfl (op_fa rfl fo74_0 (ev1 rfl)) ?_
    refine zab rfl rfl rfl (op_ldm rfl tb26 (ev1 rfl) rfl rfl) ?_
    refine zab rfl rfl rfl (zac (.inl rfl) (ev1 rfl)) ?_
    refine zab rfl rfl rfl (op_slmdr (i := (plM l m)) rfl sl26 (ev1 rfl) (bd_some (ev1 rfl)) (fun _ => by omega) (fun _ => by omega) (fun _ => rfl)) ?_
    refine zan rfl rfl rfl (op_appr (j := 5) rfl sl26 zr44 rfl (ev1 rfl) (ev1 rfl) rfl rfl (mk_oc _) (fun _ => ⟨by rw [List.length_take, List.length_drop]; omega, by rw [List.length_take, List.length_drop]; omega⟩)) (by simp only [upd, za, zaa]; exact rfl) ?_
    refine zab rfl rfl rfl (op_nc rfl (ev1 rfl) (fun s v h => by cases h; exact ⟨_, rfl⟩)) ?_
    refine zab rfl rfl rfl (op_fa rfl fo74_0 (ev1 rfl)) ?_
    refine walk_s rfl rfl (op_stm rfl tb26 (ev1 rfl) (ev1 rfl) (fun s v h => by cases h <;> exact ⟨rfl, rfl⟩) rfl (by first | decide | exact Nat.le_of_ble_eq_true rfl | simp)) (by simp only [upd, za, zaa]; exact rfl) ?_
    refine zaf ?_
    refine zae ?_
    refine zad ?_
    refine zab rfl rfl rfl (zac (.inl rfl) (ev1 rfl)) ?_
    refine zab rfl rfl rfl (op_nc rfl (ev1 rfl) (fun s v h => by cases h; exact ⟨_, rfl⟩)) ?_
    refine zab rfl rfl rfl (op_fa rfl fo74_0 (ev1 rfl)) ?_
    refine zab rfl rfl rfl (op_ldm rfl tb26 (ev1 rfl) rfl rfl) ?_
    refine zab rfl rfl rfl (op_lenx rfl sl26 (ev1 rfl) rfl) ?_
    refine zab rfl rfl rfl (op_gtr rfl (ev1 rfl) (ev1 rfl)) ?_
    refine zaf ?_
    refine dwp_cond rfl (fun c2 => ?_) (fun c2 => ?_)
    · have hgt : 6 < (insM l m).length := by
        have h1 := hr3.1
        have h2 := of_decide_eq_true c2
        omega
      refine dwp_givem 0 0 (by rw [hr3.2]; exact mk_nl _) rfl rfl rfl (by simp only [za, zaa]; exact rfl) ?_
      refine dwp_eqB 0 (show Blk.mix 74 [.slm 4 _ _] = Blk.mix 74 [.slm 4 (insM l m).length ((insM l m).flatMap mkC)] from by rw [← hr3.1, ← hr3.2]) rfl (by simp only [List.cons_append, List.nil_append, za, zaa]; exact rfl) ?_
      have hcl : closI (idsK (insM l m)) + 1 < (insM l m).length := by
        have h1 := clN_le (gapI (idsK (insM l m))) ((idsK (insM l m)).length - 2)
        rw [List.length_map] at h1
        unfold closI
        rw [List.length_map]
        omega
      refine zak 1 (by simp only [holes, List.cons_append, List.nil_append]; exact rfl) ?_
      refine zad ?_
      refine zab rfl rfl rfl (zac (.inl rfl) (ev1 rfl)) ?_
      refine zab rfl rfl rfl (zac (.inl rfl) (ev1 rfl)) ?_
      refine zan rfl rfl rfl (zah [0] [] [] rfl (ev1 rfl) (ec (ev1 rfl) en) rfl rfl (clos_d (insM l m) (by omega) hoi) rfl rfl rfl rfl rfl rfl) (by simp only [upd, za, zaa]; exact rfl) ?_
      refine zan rfl rfl rfl (zah [0] [] [6] rfl (ev1 rfl) (ec (ev1 rfl) (ec (ev1 rfl) en)) rfl rfl (leave_d (insM l m) (by omega) (closI (idsK (insM l m))) hcl) rfl rfl rfl (by exact (wrc rfl (wrc (sb_arxr (mk_nl _)) rfl))) rfl rfl) (by simp only [upd, za, zaa]; exact rfl) ?_
      refine zaf ?_
      rw [ptM_gt hgt]
      refine kend [0, 6] (res_none rfl) rfl rfl ?_ ⟨?_, ?_, trivial⟩
      rfl
      exact rfl
      exact arxr_fits rfl rfl (mk_nl _)
    · have hle : (insM l m).length ≤ 6 := by
        have h1 := hr3.1
        have h2 := of_decide_eq_false c2
        omega
      refine zal ?_
      rw [ptM_le hle]
      refine kend [0, 5] (res_none rfl) rfl rfl ?_ ⟨?_, ?_, trivial⟩
      rfl
      exact rfl
      exact arxr_fits hr3.1 hr3.2 (mk_nl _)
set_option maxRecDepth 4000 in
set_option maxHeartbeats 1000000 in
theorem cloneM (l : List Mk) (h : l.length ≤ 5000) : DFun Try.prog 45 [.slm 4 (l).length ((l).flatMap mkC)] [] (.arr 0) [.arx 44 4 (l).length ((l).flatMap mkC)] := by
  refine zao (N := 8) 0 (by kernel_rfl) Try.func45 rfl rfl rfl (by simp only [fr0, Nat.zero_add, Nat.reduceAdd]; exact rfl) rfl fun s0 hs0 => ?_
  refine dwp_lenm (t := 0) rfl fun hl0 hL0 => ?_
  refine zae ?_
  refine zad ?_
  refine zab rfl rfl rfl (zac (.inr rfl) (ev1 rfl)) ?_
  refine zaf ?_
  refine zae ?_
  refine zae ?_
  refine zad ?_
  refine zab rfl rfl rfl (zac (.inl rfl) (ev1 rfl)) ?_
  refine walk_nilm? rfl rfl rfl rfl sl26 (ev1 rfl) fun nb4 hnb4 => ?_
  refine zaf ?_
  refine dwp_cond rfl (fun c1 => ?_) (fun c1 => ?_)
  · try simp only [decide_eq_true_eq, decide_eq_false_iff_not, beq_iff_eq, bne_iff_ne, beq_eq_false_iff_ne, bne_eq_false_iff_eq, Bool.not_eq_true', Bool.not_eq_false', Bool.and_eq_true, Bool.or_eq_true, Bool.or_eq_false_iff, ne_eq, Decidable.not_not, Int.not_lt, Int.not_le] at c1
    refine zae ?_
    refine zad ?_
    refine zab rfl rfl rfl (zac (.inr rfl) (ev1 rfl)) ?_
    refine zaf ?_
    refine dwp_adoptx 2 44 4 rfl rfl rfl ?_
    refine dwp_ret ?_
    refine kend [0] (rs1 rfl (rv_t rfl)) rfl rfl ?_ ⟨?_, trivial⟩
    rfl
    exact (by obtain ⟨h1, h2⟩ := hnb4 c1; rw [h2, h1]; rfl)
  · try simp only [decide_eq_true_eq, decide_eq_false_iff_not, beq_iff_eq, bne_iff_ne, beq_eq_false_iff_ne, bne_eq_false_iff_eq, Bool.not_eq_true', Bool.not_eq_false', Bool.and_eq_true, Bool.or_eq_true, Bool.or_eq_false_iff, ne_eq, Decidable.not_not, Int.not_lt, Int.not_le] at c1
    refine zal ?_
    refine zae ?_
    refine zak 2 (by simp only [holes, List.cons_append, List.nil_append]; exact rfl) ?_
    refine zad ?_
    refine zan rfl rfl rfl (op_bsxs (ps := []) 0 rfl sl26 zr44 rfl en rfl rfl rfl rfl (by decide) (by decide) rfl) (by simp only [upd, za, zaa]; exact rfl) ?_
    refine zab rfl rfl rfl (zac (.inl rfl) (ev1 rfl)) ?_
    refine zan rfl rfl rfl (op_appr (j := 1) rfl sl26 zr44 rfl (ev1 rfl) (ev1 rfl) rfl rfl (mk_oc _) (fun _ => ⟨by omega, by omega⟩)) (by simp only [upd, za, zaa]; exact rfl) ?_
    refine zab rfl rfl rfl (zac (.inr rfl) (ev1 rfl)) ?_
    refine zaf ?_
    refine dwp_ret ?_
    refine kend [1] (rs1 rfl (rv_t rfl)) rfl rfl ?_ ⟨?_, trivial⟩
    rfl
    exact arxr_fits (Nat.zero_add _) rfl (mk_nl _)
def ptL (l r : List Mk) : List Mk := r.foldl ptM l
theorem ptL_take {l r : List Mk} {k : Nat} (h : k < r.length) : ptL l (r.take (k + 1)) = ptM (ptL l (r.take k)) r[k] := by
  unfold ptL
  rw [List.take_succ_eq_append_getElem h, List.foldl_append]; rfl
theorem okI.ptL {l : List Mk} (h : okI (idsK l)) (hl : l.length ≤ 6) : ∀ r : List Mk, r.all isMk = true → okI (idsK (ptL l r)) ∧ (Go.Proofs.Ytmpodnadoebclaa.ptL l r).length ≤ 6 := fun r hr => by
  induction r generalizing l with
  | nil => exact ⟨h, hl⟩
  | cons a r ih =>
    rw [List.all_cons, Bool.and_eq_true] at hr
    obtain ⟨h1, h2⟩ := h.put (by rw [List.length_map]; exact hl) hr.1
    rw [← ptM_ids] at h1 h2
    rw [List.length_map] at h2
    exact ih h1 h2 hr.2
theorem all_takeM {r : List Mk} (h : r.all isMk = true) (k : Nat) : (r.take k).all isMk = true := List.all_eq_true.2 fun x hx => List.all_eq_true.1 h x (List.mem_of_mem_take hx)
theorem chk_ok {l : List Mk} : chkM l = true ↔ l.length ≤ 6 ∧ okI (idsK l) := by
  unfold chkM
  rw [Bool.and_eq_true, Bool.and_eq_true, decide_eq_true_eq]
  have hall : l.all isMk = (idsK l).all mayR := by rw [List.all_map]; rfl
  constructor
  · rintro ⟨⟨h1, h2⟩, h3⟩
    rw [hall] at h3
    exact ⟨h1, (ris_ok h3).1 h2⟩
  · rintro ⟨h1, h2⟩
    have h3 : (idsK l).all mayR = true := List.all_eq_true.2 h2.1
    exact ⟨⟨h1, (ris_ok h3).2 h2⟩, by rw [hall]; exact h3⟩
set_option maxRecDepth 4000 in
set_option maxHeartbeats 1000000 in
theorem mput_ok (l r : List Mk) (h : l.length ≤ 5000) (h2 : r.length ≤ 5000) (hc : chkM l = true) (hr : r.all isMk = true) : DFun Try.prog 16 [.slm 4 (l).length ((l).flatMap mkC), .slm 4 (r).length ((r).flatMap mkC)] [] (.tup [.arr 0, .val (.int .i64 0)]) [.arx 44 4 ((ptL l r)).length (((ptL l r)).flatMap mkC)] := by
  obtain ⟨hl6, hoi⟩ := chk_ok.1 hc
  refine zao (N := 37) 0 (by kernel_rfl) Try.func16 rfl rfl rfl (by simp only [fr0, Nat.zero_add, Nat.reduceAdd]; exact rfl) rfl fun s0 hs0 => ?_
  refine dwp_lenm (t := 0) rfl fun hl0 hL0 => ?_
  refine dwp_lenm (t := 1) rfl fun hl1 hL1 => ?_
  refine zae ?_
  refine zad ?_
  refine zab rfl rfl rfl (zac (.inr rfl) (ev1 rfl)) ?_
  refine zab rfl rfl rfl (zac (.inr rfl) (ev1 rfl)) ?_
  refine zaf ?_
  refine zae ?_
  refine zae ?_
  refine zad ?_
  refine zab rfl rfl rfl (zac (.inl rfl) (ev1 rfl)) ?_
  refine zab rfl rfl rfl (zah [] [] [] rfl (ev1 rfl) (ec (ev1 rfl) en) rfl rfl (mcheck_d _ (by omega)) rfl rfl rfl rfl rfl rfl) ?_
  refine zab rfl rfl rfl (op_neq rfl (ev1 rfl) (ev1 rfl)) ?_
  refine zab rfl rfl rfl (zac (.inl rfl) (ev1 rfl)) ?_
  refine zaj (gd_f rfl rfl rfl) rfl rfl rfl (zac (.inl rfl) (ev1 rfl)) ?_
  refine zaj (gd_f rfl rfl rfl) rfl rfl rfl (zah [] [] [] rfl (ev1 rfl) (ec (ev2 rfl) (ec (ev1 rfl) en)) rfl rfl (stay_d r (by omega)) rfl rfl rfl rfl rfl rfl) ?_
  refine zaj (gd_f rfl rfl rfl) rfl rfl rfl (op_lenm rfl sl25 (ev2 rfl)) ?_
  refine zaj (gd_f rfl rfl rfl) rfl rfl rfl (zac (.inl rfl) (ev1 rfl)) ?_
  refine zaj (gd_f rfl rfl rfl) rfl rfl rfl (op_lenm rfl sl25 (ev2 rfl)) ?_
  refine zaj (gd_f rfl rfl rfl) rfl rfl rfl (op_lss rfl (ev2 rfl) (ev2 rfl)) ?_
  refine zab rfl rfl rfl (op_or rfl (ev1 rfl) (ev3 rfl id)) ?_
  refine zaf ?_
  refine dwp_if_f rfl (by rw [filt_len, hc, hr]; rfl) ?_
  refine zal ?_
  refine zae ?_
  refine zak 2 (by simp only [holes, List.cons_append, List.nil_append]; exact rfl) ?_
  refine zad ?_
  refine zab rfl rfl rfl (zac (.inl rfl) (ev1 rfl)) ?_
  refine zan rfl rfl rfl (zah [] [] [0] rfl (ev1 rfl) (ec (ev1 rfl) en) rfl rfl (cloneM l (by omega)) rfl rfl rfl (by exact (wrc (sb_arxr (mk_nl _)) rfl)) rfl rfl) (by simp only [upd, za, zaa]; exact rfl) ?_
  refine zab rfl rfl rfl (op_bldD (ps := [(0, .tmp 22)]) rfl fl74 zr74 (ec (ev1 rfl) en) rfl rfl rfl) ?_
  refine zan rfl rfl rfl (op_alloc 1 rfl zr74 rfl) (by simp only [upd, za, zaa]; exact rfl) ?_
  refine walk_s rfl rfl (op_stam rfl tb74 (ev1 rfl) (ev1 rfl) rfl rfl rfl rfl) (by simp only [upd, za, zaa]; exact rfl) ?_
  refine zaf ?_
  refine zae ?_
  refine zad ?_
  refine zab rfl rfl rfl (op_mkf rfl (ec (ev1 rfl) en) en) ?_
  refine zab rfl rfl rfl (zac (.inr rfl) (ev1 rfl)) ?_
  refine zaf ?_
  refine zae ?_
  refine zae ?_
  refine zad ?_
  refine zab rfl rfl rfl (zac (.inl rfl) (ev1 rfl)) ?_
  refine zab rfl rfl rfl (op_lenm rfl sl25 (ev1 rfl)) ?_
  refine zab rfl rfl rfl (zac (.inl rfl) (ev1 rfl)) ?_
  refine zaf ?_
  refine zam ?_
  refine dwp_loopS ⟨hs0, rfl⟩ (α := Nat) (fun k => [(27, .val (.int .i64 (k : Int)))]) [(6, _), (7, _), (25, _), (26, _)] (fun k => [(0, .arx 44 4 ((ptL l (r.take k))).length (((ptL l (r.take k))).flatMap mkC))]) [.hole, _] (fun k => k ≤ r.length) (fun k => r.length - k) 0 [0, 1] (Nat.zero_le _) rfl ⟨rfl, rfl, rfl, rfl, trivial⟩ ⟨rfl, trivial⟩ ⟨arxr_fits rfl rfl (mk_nl _), rfl, trivial⟩ ?_
  intro k hx
  simp only [upd, za, zaa, List.cons_append, List.nil_append]
  have hk := hx
  obtain ⟨hok, hlen⟩ := hoi.ptL hl6 _ (all_takeM hr k)
  refine zae ?_
  refine zad ?_
  refine zab rfl rfl rfl (op_lss rfl (ev1 rfl) (ev1 rfl)) ?_
  refine zaf ?_
  refine zae ?_
  refine dwp_cond rfl (fun c2 => ?_) (fun c2 => ?_)
  · try simp only [decide_eq_true_eq, decide_eq_false_iff_not, beq_iff_eq, bne_iff_ne, beq_eq_false_iff_ne, bne_eq_false_iff_eq, Bool.not_eq_true', Bool.not_eq_false', Bool.and_eq_true, Bool.or_eq_true, Bool.or_eq_false_iff, ne_eq, Decidable.not_not, Int.not_lt, Int.not_le] at c2
    refine zal ?_
    refine zae ?_
    refine zam ?_
    refine zae ?_
    refine zak 1 (by simp only [holes, List.cons_append, List.nil_append]; exact rfl) ?_
    refine zad ?_
    refine zab rfl rfl rfl (op_ixmr (k) (by decide) rfl sl25 (ev1 rfl) (ev1 rfl) (fun _ => rfl) (by omega) (fun _ => rfl)) ?_
    refine zab rfl rfl rfl (op_lddr rfl tb44 (ev1 rfl) rfl rfl) ?_
    refine zan rfl rfl rfl (op_alloc 2 rfl zr44 rfl) (by simp only [upd, za, zaa]; exact rfl) ?_
    refine walk_s rfl rfl (op_stam2 rfl tb44 (ev1 rfl) (ev1 rfl) rfl rfl rfl rfl) (by simp only [upd, za, zaa]; exact rfl) ?_
    refine zaf ?_
    refine dwp_givem 1 0 (mk_nl _) rfl rfl rfl (by simp only [za, zaa]; exact rfl) ?_
    refine zak 1 (by simp only [holes, List.cons_append, List.nil_append]; exact rfl) ?_
    refine zad ?_
    refine zab rfl rfl rfl (zac (.inl rfl) (ev1 rfl)) ?_
    refine zab rfl rfl rfl (op_ldmw rfl tb44 (ev1 rfl) rfl rfl) ?_
    refine zan rfl rfl rfl (zah [1] [] [3] rfl (ev1 rfl) (ec (ev1 rfl) en) rfl rfl (put_d (ptL l (r.take k)) hlen r[k] hok (List.all_eq_true.1 hr _ (List.getElem_mem _))) rfl rfl rfl (by exact (wrc rfl (wrc (sb_arxr (mk_nl _)) rfl))) rfl rfl) (by simp only [upd, za, zaa]; exact rfl) ?_
    refine zaf ?_
    refine zad ?_
    refine zab rfl rfl rfl (op_add' rfl (ev1 rfl) (ev1 rfl) (fun _ => IntWalk.i64_in _ (by omega))) ?_
    refine zab rfl rfl rfl (zac (.inl rfl) (ev1 rfl)) ?_
    refine zaf ?_
    refine ⟨k + 1, [3, 1], by omega, by simp only []; omega, rfl, ⟨rfl, rfl, rfl, rfl, rfl, trivial⟩, ⟨arxr_fits (by rw [ptL_take (by omega)]) (by rw [ptL_take (by omega)]) (mk_nl _), rfl, trivial⟩⟩
  · try simp only [decide_eq_true_eq, decide_eq_false_iff_not, beq_iff_eq, bne_iff_ne, beq_eq_false_iff_ne, bne_eq_false_iff_eq, Bool.not_eq_true', Bool.not_eq_false', Bool.and_eq_true, Bool.or_eq_true, Bool.or_eq_false_iff, ne_eq, Decidable.not_not, Int.not_lt, Int.not_le] at c2
    refine dwp_exit ?_
    refine zae ?_
    refine zad ?_
    refine zab rfl rfl rfl (op_fa rfl fo74_0 (ev1 rfl)) ?_
    refine zab rfl rfl rfl (op_ldm rfl tb26 (ev1 rfl) rfl rfl) ?_
    refine zab rfl rfl rfl (zac (.inr rfl) (ev1 rfl)) ?_
    refine zab rfl rfl rfl (zac (.inr rfl) (ev1 rfl)) ?_
    refine zaf ?_
    refine dwp_ret ?_
    rw [List.take_of_length_le (by omega)]
    refine kend [0] (rs2 rfl (rv_t rfl) (rv_t rfl)) rfl rfl ?_ ⟨?_, trivial⟩
    rfl
    exact arxr_fits rfl rfl (mk_nl _)
theorem mput_d (l r : List Mk) (h : l.length ≤ 5000) (h2 : r.length ≤ 5000) (hc : chkM l = true) (hr : r.all isMk = true) : DFun Try.prog 16 [.slm 4 (l).length ((l).flatMap mkC), .slm 4 (r).length ((r).flatMap mkC)] [] (.tup [.slm 4 (ptL l r).length ((ptL l r).flatMap mkC), .val (.int .i64 0)]) [] := freeze (mput_ok l r h h2 hc hr) (vw_two (vw_arrV rfl rfl rfl (mk_nl _)))
end Go.Proofs.Ytmpodnadoebclaa
namespace Go.Proofs.Ytmpodnadoebclaa
set_option maxRecDepth 4000
set_option linter.unusedVariables false
set_option linter.unusedSimpArgs false
open Go.RowKit
set_option maxRecDepth 4000 in
set_option maxHeartbeats 1000000 in
theorem due1_d (i : I3) : DFun Try.prog 55 [.val (.agg (idc i).toArray)] [] (.val (.bool (mayR i))) [] := by
  refine zao (N := 6) 0 (by kernel_rfl) Try.func55 rfl rfl rfl (by simp only [fr0, Nat.zero_add, Nat.reduceAdd]; exact rfl) rfl fun s0 hs0 => ?_
  refine zae ?_
  refine zak 1 (by simp only [holes, List.cons_append, List.nil_append]; exact rfl) ?_
  refine zad ?_
  refine zan rfl rfl rfl (op_boxa 0 rfl (ev1 rfl) rfl) (by simp only [upd, za, zaa]; exact rfl) ?_
  refine zab rfl rfl rfl (zac (.inr rfl) (ev1 rfl)) ?_
  refine zaf ?_
  refine zae ?_
  refine zad ?_
  refine zab rfl rfl rfl (op_ldw rfl tb35 (ev1 rfl) rfl rfl) ?_
  refine zab rfl rfl rfl (zah [] [] [] rfl (ev1 rfl) (ec (ev1 rfl) en) rfl rfl (idCheck_d _) rfl rfl rfl rfl rfl rfl) ?_
  refine zab rfl rfl rfl (op_eql rfl (ev1 rfl) (ev1 rfl)) ?_
  refine zab rfl rfl rfl (zac (.inr rfl) (ev1 rfl)) ?_
  refine zaf ?_
  refine dwp_ret ?_
  refine kend0 (rs1 rfl (rv_t rfl)) rfl ?_
  cases mayR i <;> rfl
set_option maxRecDepth 4000 in
set_option maxHeartbeats 1000000 in
theorem due2_d (i a : I3) : DFun Try.prog 57 [.val (.agg (idc i).toArray), .loc 0 0] [.flat 35 (idc a)] (.val (.bool (lessR a i))) [.flat 35 (idc a)] := by
  refine zao (N := 7) 1 (by kernel_rfl) Try.func57 rfl rfl rfl (by simp only [fr0, Nat.zero_add, Nat.reduceAdd]; exact rfl) rfl fun s0 hs0 => ?_
  refine zae ?_
  refine zak 1 (by simp only [holes, List.cons_append, List.nil_append]; exact rfl) ?_
  refine zad ?_
  refine zan rfl rfl rfl (op_boxa 1 rfl (ev1 rfl) rfl) (by simp only [upd, za, zaa]; exact rfl) ?_
  refine zab rfl rfl rfl (zac (.inr rfl) (ev1 rfl)) ?_
  refine zaf ?_
  refine zae ?_
  refine zad ?_
  refine zab rfl rfl rfl (op_ldw rfl tb35 (ev1 rfl) rfl rfl) ?_
  refine zab rfl rfl rfl (op_ldw rfl tb35 (ev1 rfl) rfl rfl) ?_
  refine zab rfl rfl rfl (zah [] [] [] rfl (ev1 rfl) (ec (ev1 rfl) (ec (ev1 rfl) en)) rfl rfl (idLess_d _ _) rfl rfl rfl rfl rfl rfl) ?_
  refine zab rfl rfl rfl (zac (.inr rfl) (ev1 rfl)) ?_
  refine zaf ?_
  refine dwp_ret ?_
  refine kend [0] (rs1 rfl (rv_t rfl)) rfl rfl ?_ ⟨rfl, trivial⟩
  rfl
set_option maxRecDepth 4000 in
set_option maxHeartbeats 1000000 in
theorem due3_d (i : I3) (c e : Int) (hc : 0 ≤ c ∧ c ≤ 1000000) (he : 1 ≤ e) : DFun Try.prog 58 [.val (.agg (idc i).toArray), .loc 0 0, .loc 1 0] [.flat 3 [.int .i64 c], .flat 3 [.int .i64 e]] (.val (.bool (decide ((c + 1) % e = 0)))) [.flat 3 [.int .i64 (c + 1)], .flat 3 [.int .i64 e]] := by
  refine zao (N := 11) 2 (by kernel_rfl) Try.func58 rfl rfl rfl (by simp only [fr0, Nat.zero_add, Nat.reduceAdd]; exact rfl) rfl fun s0 hs0 => ?_
  refine zae ?_
  refine zak 1 (by simp only [holes, List.cons_append, List.nil_append]; exact rfl) ?_
  refine zad ?_
  refine zan rfl rfl rfl (op_boxa 2 rfl (ev1 rfl) rfl) (by simp only [upd, za, zaa]; exact rfl) ?_
  refine zab rfl rfl rfl (zac (.inr rfl) (ev1 rfl)) ?_
  refine zaf ?_
  refine zae ?_
  refine zad ?_
  refine zab rfl rfl rfl (op_ldo rfl tb3 (ev1 rfl) rfl rfl) ?_
  refine zab rfl rfl rfl (op_add' rfl (ev1 rfl) (ev1 rfl) (fun _ => IntWalk.i64_in _ (by omega))) ?_
  refine walk_s rfl rfl (op_stwi rfl tb3 (ev1 rfl) (ev1 rfl) rfl) (by simp only [upd, za, zaa]; exact rfl) ?_
  refine zaf ?_
  refine zae ?_
  refine zad ?_
  refine zab rfl rfl rfl (op_ldo rfl tb3 (ev1 rfl) rfl rfl) ?_
  refine zab rfl rfl rfl (op_ldo rfl tb3 (ev1 rfl) rfl rfl) ?_
  refine zab rfl rfl rfl (op_rem' rfl (ev1 rfl) (ev1 rfl) (fun _ => ⟨by omega, by omega⟩)) ?_
  refine zab rfl rfl rfl (op_eql rfl (ev1 rfl) (ev1 rfl)) ?_
  refine zab rfl rfl rfl (zac (.inr rfl) (ev1 rfl)) ?_
  refine zaf ?_
  refine dwp_ret ?_
  refine kend [0, 1] (rs1 rfl (rv_t rfl)) rfl rfl ?_ ⟨rfl, rfl, trivial⟩
  rfl
set_option maxRecDepth 4000 in
set_option maxHeartbeats 1000000 in
theorem stay1_o (l : List I3) (h : l.length ≤ 5000)  : DFun Try.prog 56 [.slf 3 l.length (l.flatMap idc), .fn (.func 55) [] []] [] (.arr 0) [.arr 35 3 ((l.filter mayR)).length (((l.filter mayR)).flatMap idc)] := by
  refine zao (N := 23) 0 (by kernel_rfl) Try.func56 rfl rfl rfl (by simp only [fr0, Nat.zero_add, Nat.reduceAdd]; exact rfl) rfl fun s0 hs0 => ?_
  refine dwp_len (t := 0) rfl fun hl0 hL0 => ?_
  refine zae ?_
  refine zad ?_
  refine zab rfl rfl rfl (zac (.inr rfl) (ev1 rfl)) ?_
  refine zaf ?_
  refine zae ?_
  refine zad ?_
  refine zab rfl rfl rfl (zac (.inr rfl) (ev1 rfl)) ?_
  refine zaf ?_
  refine zae ?_
  refine zae ?_
  refine zad ?_
  refine zab rfl rfl rfl (zac (.inl rfl) (ev1 rfl)) ?_
  refine zab rfl rfl rfl (op_len rfl sl22 (ev1 rfl)) ?_
  refine zab rfl rfl rfl (zac (.inl rfl) (ev1 rfl)) ?_
  refine zaf ?_
  refine zam ?_
  refine dwp_adopt 5 35 3 rfl rfl rfl ?_
  refine dwp_loopS ⟨hs0, rfl⟩ (α := Nat) (fun k => [(10, .val (.int .i64 (k : Int)))]) [(1, _), (5, _), (8, _), (9, _)] (fun k => [(0, .arr 35 3 (((l.take k).filter mayR)).length ((((l.take k).filter mayR)).flatMap idc))]) [.hole] (fun k => k ≤ l.length) (fun k => l.length - k) 0 [0] (Nat.zero_le _) rfl ⟨rfl, rfl, rfl, rfl, trivial⟩ ⟨rfl, trivial⟩ ⟨rfl, trivial⟩ ?_
  intro k hx
  simp only [upd, za, zaa, List.cons_append, List.nil_append]
  have hk := hx
  have htl : ((l.take k).filter mayR).length ≤ k := filt_tl
  refine zae ?_
  refine zad ?_
  refine zab rfl rfl rfl (op_lss rfl (ev1 rfl) (ev1 rfl)) ?_
  refine zaf ?_
  refine zae ?_
  refine dwp_cond rfl (fun c1 => ?_) (fun c1 => ?_)
  · try simp only [decide_eq_true_eq, decide_eq_false_iff_not, beq_iff_eq, bne_iff_ne, beq_eq_false_iff_ne, bne_eq_false_iff_eq, Bool.not_eq_true', Bool.not_eq_false', Bool.and_eq_true, Bool.or_eq_true, Bool.or_eq_false_iff, ne_eq, Decidable.not_not, Int.not_lt, Int.not_le] at c1
    refine zal ?_
    refine zae ?_
    refine zam ?_
    refine zae ?_
    refine zak 1 (by simp only [holes, List.cons_append, List.nil_append]; exact rfl) ?_
    refine zad ?_
    refine zab rfl rfl rfl (op_ixsr (j := k) rfl sl22 (ev1 rfl) (ev1 rfl) (fun _ => rfl) (by decide) (by omega) (by omega)) ?_
    refine zab rfl rfl rfl (op_ldwd rfl tb35 (ev1 rfl) rfl) ?_
    refine zan rfl rfl rfl (op_alloc 1 rfl zr35 rfl) (by simp only [upd, za, zaa]; exact rfl) ?_
    refine walk_s rfl rfl (op_stwa rfl tb35 (ev1 rfl) (ev1 rfl) rfl rfl rfl rfl) (by simp only [upd, za, zaa]; exact rfl) ?_
    refine zaf ?_
    refine zae ?_
    refine zad ?_
    refine zab rfl rfl rfl (zac (.inl rfl) (ev1 rfl)) ?_
    refine zab rfl rfl rfl (op_ldw rfl tb35 (ev1 rfl) rfl rfl) ?_
    refine zab rfl rfl rfl (zah [] [] [] rfl (ev1 rfl) (ec (ev1 rfl) en) rfl rfl (due1_d l[k]) rfl rfl rfl rfl rfl rfl) ?_
    refine zaf ?_
    refine dwp_cond rfl (fun c2 => ?_) (fun c2 => ?_)
    · have c3 : mayR l[k] = true := c2
      refine zak 2 (by simp only [holes, List.cons_append, List.nil_append]; exact rfl) ?_
      refine zad ?_
      refine zab rfl rfl rfl (zac (.inl rfl) (ev1 rfl)) ?_
      refine zab rfl rfl rfl (op_ldw rfl tb35 (ev1 rfl) rfl rfl) ?_
      refine zan rfl rfl rfl (op_bsa (ps := [(0, .tmp 18)]) 2 rfl sl22 zr35 rfl (vc (ev1 rfl) vn) rfl (by decide) (by decide) rfl) (by simp only [upd, za, zaa]; exact rfl) ?_
      refine zan rfl rfl rfl (op_app (j := 3) rfl sl22 zr35 rfl (ev1 rfl) (ev1 rfl) (src_arr rfl) rfl rfl (fun _ => rfl) (fun _ => ⟨by omega, by omega⟩)) (by simp only [upd, za, zaa]; exact rfl) ?_
      refine zab rfl rfl rfl (zac (.inr rfl) (ev1 rfl)) ?_
      refine zaf ?_
      refine zad ?_
      refine zab rfl rfl rfl (op_add' rfl (ev1 rfl) (ev1 rfl) (fun _ => IntWalk.i64_in _ (by omega))) ?_
      refine zab rfl rfl rfl (zac (.inl rfl) (ev1 rfl)) ?_
      refine zaf ?_
      refine ⟨k + 1, [3], by omega, by simp only []; omega, rfl, ⟨rfl, rfl, rfl, rfl, rfl, trivial⟩, ⟨arr_eq (by rw [filt_take (by omega), if_pos c3, List.length_append]; rfl) (by rw [filt_take (by omega), if_pos c3, List.flatMap_append]; rfl), trivial⟩⟩
    · have c3 : ¬ mayR l[k] = true := by rw [Bool.not_eq_true]; exact c2
      refine zal ?_
      refine zad ?_
      refine zab rfl rfl rfl (op_add' rfl (ev1 rfl) (ev1 rfl) (fun _ => IntWalk.i64_in _ (by omega))) ?_
      refine zab rfl rfl rfl (zac (.inl rfl) (ev1 rfl)) ?_
      refine zaf ?_
      refine ⟨k + 1, [0], by omega, by simp only []; omega, rfl, ⟨rfl, rfl, rfl, rfl, rfl, trivial⟩, ⟨by rw [filt_take (by omega), if_neg c3, List.append_nil]; rfl, trivial⟩⟩
  · try simp only [decide_eq_true_eq, decide_eq_false_iff_not, beq_iff_eq, bne_iff_ne, beq_eq_false_iff_ne, bne_eq_false_iff_eq, Bool.not_eq_true', Bool.not_eq_false', Bool.and_eq_true, Bool.or_eq_true, Bool.or_eq_false_iff, ne_eq, Decidable.not_not, Int.not_lt, Int.not_le] at c1
    refine dwp_exit ?_
    refine zae ?_
    refine zad ?_
    refine zab rfl rfl rfl (zac (.inl rfl) (ev1 rfl)) ?_
    refine zab rfl rfl rfl (zac (.inr rfl) (ev1 rfl)) ?_
    refine zaf ?_
    refine dwp_ret ?_
    rw [List.take_of_length_le (by omega)]
    refine kend [0] (rs1 rfl (rv_t rfl)) rfl rfl ?_ ⟨rfl, trivial⟩
    rfl
set_option maxRecDepth 4000 in
set_option maxHeartbeats 1000000 in
theorem stay2_o (l : List I3) (h : l.length ≤ 5000) (a : I3) : DFun Try.prog 56 [.slf 3 l.length (l.flatMap idc), .fn (.func 57) [] [.loc 0 0]] [.flat 35 (idc a)] (.arr 1) [.flat 35 (idc a), .arr 35 3 ((l.filter (fun i : I3 => lessR a i))).length (((l.filter (fun i : I3 => lessR a i))).flatMap idc)] := by
  refine zao (N := 23) 1 (by kernel_rfl) Try.func56 rfl rfl rfl (by simp only [fr0, Nat.zero_add, Nat.reduceAdd]; exact rfl) rfl fun s0 hs0 => ?_
  refine dwp_len (t := 0) rfl fun hl0 hL0 => ?_
  refine zae ?_
  refine zad ?_
  refine zab rfl rfl rfl (zac (.inr rfl) (ev1 rfl)) ?_
  refine zaf ?_
  refine zae ?_
  refine zad ?_
  refine zab rfl rfl rfl (zac (.inr rfl) (ev1 rfl)) ?_
  refine zaf ?_
  refine zae ?_
  refine zae ?_
  refine zad ?_
  refine zab rfl rfl rfl (zac (.inl rfl) (ev1 rfl)) ?_
  refine zab rfl rfl rfl (op_len rfl sl22 (ev1 rfl)) ?_
  refine zab rfl rfl rfl (zac (.inl rfl) (ev1 rfl)) ?_
  refine zaf ?_
  refine zam ?_
  refine dwp_adopt 5 35 3 rfl rfl rfl ?_
  refine dwp_loopS ⟨hs0, rfl⟩ (α := Nat) (fun k => [(10, .val (.int .i64 (k : Int)))]) [(1, _), (5, _), (8, _), (9, _)] (fun k => [(1, .arr 35 3 (((l.take k).filter (fun i : I3 => lessR a i))).length ((((l.take k).filter (fun i : I3 => lessR a i))).flatMap idc))]) [_, .hole] (fun k => k ≤ l.length) (fun k => l.length - k) 0 [0, 1] (Nat.zero_le _) rfl ⟨rfl, rfl, rfl, rfl, trivial⟩ ⟨rfl, trivial⟩ ⟨rfl, rfl, trivial⟩ ?_
  intro k hx
  simp only [upd, za, zaa, List.cons_append, List.nil_append]
  have hk := hx
  have htl : ((l.take k).filter (fun i : I3 => lessR a i)).length ≤ k := filt_tl
  refine zae ?_
  refine zad ?_
  refine zab rfl rfl rfl (op_lss rfl (ev1 rfl) (ev1 rfl)) ?_
  refine zaf ?_
  refine zae ?_
  refine dwp_cond rfl (fun c1 => ?_) (fun c1 => ?_)
  · try simp only [decide_eq_true_eq, decide_eq_false_iff_not, beq_iff_eq, bne_iff_ne, beq_eq_false_iff_ne, bne_eq_false_iff_eq, Bool.not_eq_true', Bool.not_eq_false', Bool.and_eq_true, Bool.or_eq_true, Bool.or_eq_false_iff, ne_eq, Decidable.not_not, Int.not_lt, Int.not_le] at c1
    refine zal ?_
    refine zae ?_
    refine zam ?_
    refine zae ?_
    refine zak 1 (by simp only [holes, List.cons_append, List.nil_append]; exact rfl) ?_
    refine zad ?_
    refine zab rfl rfl rfl (op_ixsr (j := k) rfl sl22 (ev1 rfl) (ev1 rfl) (fun _ => rfl) (by decide) (by omega) (by omega)) ?_
    refine zab rfl rfl rfl (op_ldwd rfl tb35 (ev1 rfl) rfl) ?_
    refine zan rfl rfl rfl (op_alloc 2 rfl zr35 rfl) (by simp only [upd, za, zaa]; exact rfl) ?_
    refine walk_s rfl rfl (op_stwa rfl tb35 (ev1 rfl) (ev1 rfl) rfl rfl rfl rfl) (by simp only [upd, za, zaa]; exact rfl) ?_
    refine zaf ?_
    refine zae ?_
    refine zad ?_
    refine zab rfl rfl rfl (zac (.inl rfl) (ev1 rfl)) ?_
    refine zab rfl rfl rfl (op_ldw rfl tb35 (ev1 rfl) rfl rfl) ?_
    refine zan rfl rfl rfl (zah [0] [] [] rfl (ev1 rfl) (ec (ev1 rfl) en) rfl rfl (due2_d l[k] a) rfl rfl rfl rfl rfl rfl) (by simp only [upd, za, zaa]; exact rfl) ?_
    refine zaf ?_
    refine dwp_cond rfl (fun c2 => ?_) (fun c2 => ?_)
    · have c3 : (fun i : I3 => lessR a i) l[k] = true := c2
      refine zak 2 (by simp only [holes, List.cons_append, List.nil_append]; exact rfl) ?_
      refine zad ?_
      refine zab rfl rfl rfl (zac (.inl rfl) (ev1 rfl)) ?_
      refine zab rfl rfl rfl (op_ldw rfl tb35 (ev1 rfl) rfl rfl) ?_
      refine zan rfl rfl rfl (op_bsa (ps := [(0, .tmp 18)]) 3 rfl sl22 zr35 rfl (vc (ev1 rfl) vn) rfl (by decide) (by decide) rfl) (by simp only [upd, za, zaa]; exact rfl) ?_
      refine zan rfl rfl rfl (op_app (j := 4) rfl sl22 zr35 rfl (ev1 rfl) (ev1 rfl) (src_arr rfl) rfl rfl (fun _ => rfl) (fun _ => ⟨by omega, by omega⟩)) (by simp only [upd, za, zaa]; exact rfl) ?_
      refine zab rfl rfl rfl (zac (.inr rfl) (ev1 rfl)) ?_
      refine zaf ?_
      refine zad ?_
      refine zab rfl rfl rfl (op_add' rfl (ev1 rfl) (ev1 rfl) (fun _ => IntWalk.i64_in _ (by omega))) ?_
      refine zab rfl rfl rfl (zac (.inl rfl) (ev1 rfl)) ?_
      refine zaf ?_
      refine ⟨k + 1, [0, 4], by omega, by simp only []; omega, rfl, ⟨rfl, rfl, rfl, rfl, rfl, trivial⟩, ⟨rfl, arr_eq (by rw [filt_take (by omega), if_pos c3, List.length_append]; rfl) (by rw [filt_take (by omega), if_pos c3, List.flatMap_append]; rfl), trivial⟩⟩
    · have c3 : ¬ (fun i : I3 => lessR a i) l[k] = true := by rw [Bool.not_eq_true]; exact c2
      refine zal ?_
      refine zad ?_
      refine zab rfl rfl rfl (op_add' rfl (ev1 rfl) (ev1 rfl) (fun _ => IntWalk.i64_in _ (by omega))) ?_
      refine zab rfl rfl rfl (zac (.inl rfl) (ev1 rfl)) ?_
      refine zaf ?_
      refine ⟨k + 1, [0, 1], by omega, by simp only []; omega, rfl, ⟨rfl, rfl, rfl, rfl, rfl, trivial⟩, ⟨rfl, by rw [filt_take (by omega), if_neg c3, List.append_nil]; rfl, trivial⟩⟩
  · try simp only [decide_eq_true_eq, decide_eq_false_iff_not, beq_iff_eq, bne_iff_ne, beq_eq_false_iff_ne, bne_eq_false_iff_eq, Bool.not_eq_true', Bool.not_eq_false', Bool.and_eq_true, Bool.or_eq_true, Bool.or_eq_false_iff, ne_eq, Decidable.not_not, Int.not_lt, Int.not_le] at c1
    refine dwp_exit ?_
    refine zae ?_
    refine zad ?_
    refine zab rfl rfl rfl (zac (.inl rfl) (ev1 rfl)) ?_
    refine zab rfl rfl rfl (zac (.inr rfl) (ev1 rfl)) ?_
    refine zaf ?_
    refine dwp_ret ?_
    rw [List.take_of_length_le (by omega)]
    refine kend [0, 1] (rs1 rfl (rv_t rfl)) rfl rfl ?_ ⟨rfl, rfl, trivial⟩
    rfl
def dueT (e : Int) (l : List I3) : Nat → List I3
  | 0 => []
  | k + 1 => dueT e l k ++ if ((k : Int) + 1) % e = 0 then [l.getD k zI3] else []
def dueL (e : Int) (l : List I3) : List I3 := dueT e l l.length
theorem dueT_len (e : Int) (l : List I3) : ∀ k, (dueT e l k).length ≤ k
  | 0 => Nat.le_refl _
  | k + 1 => by
    have := dueT_len e l k
    unfold dueT
    rw [List.length_append]
    split <;> simp <;> omega
theorem dueT_y {e : Int} {l : List I3} {k : Nat} (hk : k < l.length) (h : ((k : Int) + 1) % e = 0) : dueT e l (k + 1) = dueT e l k ++ [l[k]] := by rw [dueT, if_pos h, gI hk]
theorem dueT_n {e : Int} {l : List I3} {k : Nat} (h : ¬ ((k : Int) + 1) % e = 0) : dueT e l (k + 1) = dueT e l k := by rw [dueT, if_neg h, List.append_nil]
set_option maxRecDepth 4000 in
set_option maxHeartbeats 1000000 in
theorem stay3_o (l : List I3) (h : l.length ≤ 5000) (e : Int) (he : 1 ≤ e) : DFun Try.prog 56 [.slf 3 l.length (l.flatMap idc), .fn (.func 58) [] [.loc 0 0, .loc 1 0]] [.flat 3 [.int .i64 0], .flat 3 [.int .i64 e]] (.arr 2) [.flat 3 [.int .i64 (l.length : Int)], .flat 3 [.int .i64 e], .arr 35 3 ((dueL e l)).length (((dueL e l)).flatMap idc)] := by
  refine zao (N := 23) 2 (by kernel_rfl) Try.func56 rfl rfl rfl (by simp only [fr0, Nat.zero_add, Nat.reduceAdd]; exact rfl) rfl fun s0 hs0 => ?_
  refine dwp_len (t := 0) rfl fun hl0 hL0 => ?_
  refine zae ?_
  refine zad ?_
  refine zab rfl rfl rfl (zac (.inr rfl) (ev1 rfl)) ?_
  refine zaf ?_
  refine zae ?_
  refine zad ?_
  refine zab rfl rfl rfl (zac (.inr rfl) (ev1 rfl)) ?_
  refine zaf ?_
  refine zae ?_
  refine zae ?_
  refine zad ?_
  refine zab rfl rfl rfl (zac (.inl rfl) (ev1 rfl)) ?_
  refine zab rfl rfl rfl (op_len rfl sl22 (ev1 rfl)) ?_
  refine zab rfl rfl rfl (zac (.inl rfl) (ev1 rfl)) ?_
  refine zaf ?_
  refine zam ?_
  refine dwp_adopt 5 35 3 rfl rfl rfl ?_
  refine dwp_loopS ⟨hs0, rfl⟩ (α := Nat) (fun k => [(10, .val (.int .i64 (k : Int)))]) [(1, _), (5, _), (8, _), (9, _)] (fun k => [(0, .flat 3 [.int .i64 (k : Int)]), (2, .arr 35 3 ((dueT e l k)).length (((dueT e l k)).flatMap idc))]) [.hole, _, .hole] (fun k => k ≤ l.length) (fun k => l.length - k) 0 [0, 1, 2] (Nat.zero_le _) rfl ⟨rfl, rfl, rfl, rfl, trivial⟩ ⟨rfl, trivial⟩ ⟨rfl, rfl, rfl, trivial⟩ ?_
  intro k hx
  simp only [upd, za, zaa, List.cons_append, List.nil_append]
  have hk := hx
  have htl := dueT_len e l k
  refine zae ?_
  refine zad ?_
  refine zab rfl rfl rfl (op_lss rfl (ev1 rfl) (ev1 rfl)) ?_
  refine zaf ?_
  refine zae ?_
  refine dwp_cond rfl (fun c1 => ?_) (fun c1 => ?_)
  · try simp only [decide_eq_true_eq, decide_eq_false_iff_not, beq_iff_eq, bne_iff_ne, beq_eq_false_iff_ne, bne_eq_false_iff_eq, Bool.not_eq_true', Bool.not_eq_false', Bool.and_eq_true, Bool.or_eq_true, Bool.or_eq_false_iff, ne_eq, Decidable.not_not, Int.not_lt, Int.not_le] at c1
    refine zal ?_
    refine zae ?_
    refine zam ?_
    refine zae ?_
    refine zak 1 (by simp only [holes, List.cons_append, List.nil_append]; exact rfl) ?_
    refine zad ?_
    refine zab rfl rfl rfl (op_ixsr (j := k) rfl sl22 (ev1 rfl) (ev1 rfl) (fun _ => rfl) (by decide) (by omega) (by omega)) ?_
    refine zab rfl rfl rfl (op_ldwd rfl tb35 (ev1 rfl) rfl) ?_
    refine zan rfl rfl rfl (op_alloc 3 rfl zr35 rfl) (by simp only [upd, za, zaa]; exact rfl) ?_
    refine walk_s rfl rfl (op_stwa rfl tb35 (ev1 rfl) (ev1 rfl) rfl rfl rfl rfl) (by simp only [upd, za, zaa]; exact rfl) ?_
    refine zaf ?_
    refine zae ?_
    refine zad ?_
    refine zab rfl rfl rfl (zac (.inl rfl) (ev1 rfl)) ?_
    refine zab rfl rfl rfl (op_ldw rfl tb35 (ev1 rfl) rfl rfl) ?_
    refine zan rfl rfl rfl (zah [0, 1] [] [] rfl (ev1 rfl) (ec (ev1 rfl) en) rfl rfl (due3_d l[k] k e ⟨by omega, by omega⟩ he) rfl rfl rfl rfl rfl rfl) (by simp only [upd, za, zaa]; exact rfl) ?_
    refine zaf ?_
    refine dwp_cond rfl (fun c2 => ?_) (fun c2 => ?_)
    · have c3 : ((k : Int) + 1) % e = 0 := of_decide_eq_true c2
      refine zak 2 (by simp only [holes, List.cons_append, List.nil_append]; exact rfl) ?_
      refine zad ?_
      refine zab rfl rfl rfl (zac (.inl rfl) (ev1 rfl)) ?_
      refine zab rfl rfl rfl (op_ldw rfl tb35 (ev1 rfl) rfl rfl) ?_
      refine zan rfl rfl rfl (op_bsa (ps := [(0, .tmp 18)]) 4 rfl sl22 zr35 rfl (vc (ev1 rfl) vn) rfl (by decide) (by decide) rfl) (by simp only [upd, za, zaa]; exact rfl) ?_
      refine zan rfl rfl rfl (op_app (j := 5) rfl sl22 zr35 rfl (ev1 rfl) (ev1 rfl) (src_arr rfl) rfl rfl (fun _ => rfl) (fun _ => ⟨by omega, by omega⟩)) (by simp only [upd, za, zaa]; exact rfl) ?_
      refine zab rfl rfl rfl (zac (.inr rfl) (ev1 rfl)) ?_
      refine zaf ?_
      refine zad ?_
      refine zab rfl rfl rfl (op_add' rfl (ev1 rfl) (ev1 rfl) (fun _ => IntWalk.i64_in _ (by omega))) ?_
      refine zab rfl rfl rfl (zac (.inl rfl) (ev1 rfl)) ?_
      refine zaf ?_
      refine ⟨k + 1, [0, 1, 5], by omega, by simp only []; omega, rfl, ⟨rfl, rfl, rfl, rfl, rfl, trivial⟩, ⟨rfl, rfl, arr_eq (by rw [dueT_y (by omega) c3, List.length_append]; rfl) (by rw [dueT_y (by omega) c3, List.flatMap_append]; rfl), trivial⟩⟩
    · have c3 : ¬ ((k : Int) + 1) % e = 0 := of_decide_eq_false c2
      refine zal ?_
      refine zad ?_
      refine zab rfl rfl rfl (op_add' rfl (ev1 rfl) (ev1 rfl) (fun _ => IntWalk.i64_in _ (by omega))) ?_
      refine zab rfl rfl rfl (zac (.inl rfl) (ev1 rfl)) ?_
      refine zaf ?_
      refine ⟨k + 1, [0, 1, 2], by omega, by simp only []; omega, rfl, ⟨rfl, rfl, rfl, rfl, rfl, trivial⟩, ⟨rfl, rfl, by rw [dueT_n c3]; rfl, trivial⟩⟩
  · try simp only [decide_eq_true_eq, decide_eq_false_iff_not, beq_iff_eq, bne_iff_ne, beq_eq_false_iff_ne, bne_eq_false_iff_eq, Bool.not_eq_true', Bool.not_eq_false', Bool.and_eq_true, Bool.or_eq_true, Bool.or_eq_false_iff, ne_eq, Decidable.not_not, Int.not_lt, Int.not_le] at c1
    refine dwp_exit ?_
    refine zae ?_
    refine zad ?_
    refine zab rfl rfl rfl (zac (.inl rfl) (ev1 rfl)) ?_
    refine zab rfl rfl rfl (zac (.inr rfl) (ev1 rfl)) ?_
    refine zaf ?_
    refine dwp_ret ?_
    have e1 : k = l.length := by omega
    subst e1
    refine kend [0, 1, 2] (rs1 rfl (rv_t rfl)) rfl rfl ?_ ⟨rfl, rfl, rfl, trivial⟩
    rfl
theorem stay1_d (l : List I3) (h : l.length ≤ 5000) : DFun Try.prog 56 [.slf 3 l.length (l.flatMap idc), .fn (.func 55) [] []] [] (.slf 3 (l.filter mayR).length ((l.filter mayR).flatMap idc)) [] := freeze (stay1_o l h) rfl
def dueB (m : List Mk) (l : List I3) (e : Int) : Bool := chkM m && decide (1 ≤ e) && risL l && l.all mayR
def behI (m : List Mk) (l : List I3) : List I3 := if m.length = 0 then l else l.filter fun i => lessR (m.getD (m.length - 1) zMk).i i
set_option maxRecDepth 4000 in
set_option maxHeartbeats 1000000 in
theorem due_no (m : List Mk) (l : List I3) (e : Int) (h : m.length ≤ 5000) (h2 : l.length ≤ 5000) (hd : dueB m l e = false) : DFun Try.prog 29 [.slm 4 (m).length ((m).flatMap mkC), .slf 3 l.length (l.flatMap idc), .val (.int .i64 e)] [] (.val (.slice none 0 0)) [] := by
  refine zao (N := 49) 0 (by kernel_rfl) Try.func29 rfl rfl rfl (by simp only [fr0, Nat.zero_add, Nat.reduceAdd]; exact rfl) rfl fun s0 hs0 => ?_
  refine dwp_lenm (t := 0) rfl fun hl0 hL0 => ?_
  refine dwp_len (t := 1) rfl fun hl1 hL1 => ?_
  refine zae ?_
  refine zak 1 (by simp only [holes, List.cons_append, List.nil_append]; exact rfl) ?_
  refine zad ?_
  refine zan rfl rfl rfl (op_boxi 0 rfl (ev1 rfl) rfl) (by simp only [upd, za, zaa]; exact rfl) ?_
  refine zab rfl rfl rfl (zac (.inr rfl) (ev1 rfl)) ?_
  refine zaf ?_
  refine zae ?_
  refine zad ?_
  refine zab rfl rfl rfl (zac (.inr rfl) (ev1 rfl)) ?_
  refine zaf ?_
  refine zae ?_
  refine zae ?_
  refine zad ?_
  refine zab rfl rfl rfl (zac (.inl rfl) (ev1 rfl)) ?_
  refine zab rfl rfl rfl (zah [] [] [] rfl (ev1 rfl) (ec (ev1 rfl) en) rfl rfl (mcheck_d _ (by omega)) rfl rfl rfl rfl rfl rfl) ?_
  refine zab rfl rfl rfl (op_neq rfl (ev1 rfl) (ev1 rfl)) ?_
  refine zab rfl rfl rfl (zac (.inl rfl) (ev1 rfl)) ?_
  refine zaj (gd_f rfl rfl rfl) rfl rfl rfl (op_ldo rfl tb3 (ev1 rfl) rfl rfl) ?_
  refine zaj (gd_f rfl rfl rfl) rfl rfl rfl (op_lss rfl (ev2 rfl) (ev1 rfl)) ?_
  refine zab rfl rfl rfl (op_or rfl (ev1 rfl) (ev3 rfl id)) ?_
  refine zab rfl rfl rfl (zac (.inl rfl) (ev1 rfl)) ?_
  refine zaj (gd_f rfl rfl rfl) rfl rfl rfl (zac (.inl rfl) (ev1 rfl)) ?_
  refine zaj (gd_f rfl rfl rfl) rfl rfl rfl (zah [] [] [] rfl (ev1 rfl) (ec (ev2 rfl) en) rfl rfl (rising_d l (by omega)) rfl rfl rfl rfl rfl rfl) ?_
  refine zaj (gd_f rfl rfl rfl) rfl rfl rfl (op_not rfl (ev2 rfl)) ?_
  refine zab rfl rfl rfl (op_or rfl (ev1 rfl) (ev3 rfl id)) ?_
  refine zab rfl rfl rfl (zac (.inl rfl) (ev1 rfl)) ?_
  refine zaj (gd_f rfl rfl rfl) rfl rfl rfl (zac (.inl rfl) (ev1 rfl)) ?_
  refine zaj (gd_f rfl rfl rfl) rfl rfl rfl (zac (.inl rfl) (ev1 rfl)) ?_
  refine zaj (gd_f rfl rfl rfl) rfl rfl rfl (zah [] [] [] rfl (ev1 rfl) (ec (ev2 rfl) (ec (ev2 rfl) en)) rfl rfl (stay1_d l (by omega)) rfl rfl rfl rfl rfl rfl) ?_
  refine zaj (gd_f rfl rfl rfl) rfl rfl rfl (op_len rfl sl22 (ev2 rfl)) ?_
  refine zaj (gd_f rfl rfl rfl) rfl rfl rfl (zac (.inl rfl) (ev1 rfl)) ?_
  refine zaj (gd_f rfl rfl rfl) rfl rfl rfl (op_len rfl sl22 (ev2 rfl)) ?_
  refine zaj (gd_f rfl rfl rfl) rfl rfl rfl (op_lss rfl (ev2 rfl) (ev2 rfl)) ?_
  refine zab rfl rfl rfl (op_or rfl (ev1 rfl) (ev3 rfl id)) ?_
  refine zaf ?_
  refine dwp_if_t rfl (by rw [filt_len]; unfold dueB at hd; cases g1 : chkM m <;> cases g2 : risL l <;> cases g3 : l.all mayR <;> simp [g1, g2, g3, errOr] at hd ⊢ <;> omega) ?_
  refine zae ?_
  refine zad ?_
  refine zab rfl rfl rfl (zac (.inr rfl) (ev1 rfl)) ?_
  refine zaf ?_
  refine dwp_ret ?_
  refine kend0 (rs1 rfl (rv_t rfl)) rfl ?_
  rfl
theorem stay2_d (l : List I3) (h : l.length ≤ 5000) (a : I3) : DFun Try.prog 56 [.slf 3 l.length (l.flatMap idc), .fn (.func 57) [] [.loc 0 0]] [.flat 35 (idc a)] (.slf 3 (l.filter (fun i : I3 => lessR a i)).length ((l.filter (fun i : I3 => lessR a i)).flatMap idc)) [.flat 35 (idc a)] := freezeN (σ := [0]) (stay2_o l h a) rfl rfl rfl ⟨rfl, trivial⟩
set_option maxRecDepth 4000 in
set_option maxHeartbeats 1000000 in
theorem due_ok (m : List Mk) (l : List I3) (e : Int) (h : m.length ≤ 5000) (h2 : l.length ≤ 5000) (hd : dueB m l e = true) : DFun Try.prog 29 [.slm 4 (m).length ((m).flatMap mkC), .slf 3 l.length (l.flatMap idc), .val (.int .i64 e)] [] (.arr 0) [.arr 35 3 ((dueL e (behI m l))).length (((dueL e (behI m l))).flatMap idc)] := by
  have he : 1 ≤ e := by unfold dueB at hd; simp at hd; omega
  refine zao (N := 49) 0 (by kernel_rfl) Try.func29 rfl rfl rfl (by simp only [fr0, Nat.zero_add, Nat.reduceAdd]; exact rfl) rfl fun s0 hs0 => ?_
  refine dwp_lenm (t := 0) rfl fun hl0 hL0 => ?_
  refine dwp_len (t := 1) rfl fun hl1 hL1 => ?_
  refine zae ?_
  refine zak 1 (by simp only [holes, List.cons_append, List.nil_append]; exact rfl) ?_
  refine zad ?_
  refine zan rfl rfl rfl (op_boxi 0 rfl (ev1 rfl) rfl) (by simp only [upd, za, zaa]; exact rfl) ?_
  refine zab rfl rfl rfl (zac (.inr rfl) (ev1 rfl)) ?_
  refine zaf ?_
  refine zae ?_
  refine zad ?_
  refine zab rfl rfl rfl (zac (.inr rfl) (ev1 rfl)) ?_
  refine zaf ?_
  refine zae ?_
  refine zae ?_
  refine zad ?_
  refine zab rfl rfl rfl (zac (.inl rfl) (ev1 rfl)) ?_
  refine zab rfl rfl rfl (zah [] [] [] rfl (ev1 rfl) (ec (ev1 rfl) en) rfl rfl (mcheck_d _ (by omega)) rfl rfl rfl rfl rfl rfl) ?_
  refine zab rfl rfl rfl (op_neq rfl (ev1 rfl) (ev1 rfl)) ?_
  refine zab rfl rfl rfl (zac (.inl rfl) (ev1 rfl)) ?_
  refine zaj (gd_f rfl rfl rfl) rfl rfl rfl (op_ldo rfl tb3 (ev1 rfl) rfl rfl) ?_
  refine zaj (gd_f rfl rfl rfl) rfl rfl rfl (op_lss rfl (ev2 rfl) (ev1 rfl)) ?_
  refine zab rfl rfl rfl (op_or rfl (ev1 rfl) (ev3 rfl id)) ?_
  refine zab rfl rfl rfl (zac (.inl rfl) (ev1 rfl)) ?_
  refine zaj (gd_f rfl rfl rfl) rfl rfl rfl (zac (.inl rfl) (ev1 rfl)) ?_
  refine zaj (gd_f rfl rfl rfl) rfl rfl rfl (zah [] [] [] rfl (ev1 rfl) (ec (ev2 rfl) en) rfl rfl (rising_d l (by omega)) rfl rfl rfl rfl rfl rfl) ?_
  refine zaj (gd_f rfl rfl rfl) rfl rfl rfl (op_not rfl (ev2 rfl)) ?_
  refine zab rfl rfl rfl (op_or rfl (ev1 rfl) (ev3 rfl id)) ?_
  refine zab rfl rfl rfl (zac (.inl rfl) (ev1 rfl)) ?_
  refine zaj (gd_f rfl rfl rfl) rfl rfl rfl (zac (.inl rfl) (ev1 rfl)) ?_
  refine zaj (gd_f rfl rfl rfl) rfl rfl rfl (zac (.inl rfl) (ev1 rfl)) ?_
  refine zaj (gd_f rfl rfl rfl) rfl rfl rfl (zah [] [] [] rfl (ev1 rfl) (ec (ev2 rfl) (ec (ev2 rfl) en)) rfl rfl (stay1_d l (by omega)) rfl rfl rfl rfl rfl rfl) ?_
  refine zaj (gd_f rfl rfl rfl) rfl rfl rfl (op_len rfl sl22 (ev2 rfl)) ?_
  refine zaj (gd_f rfl rfl rfl) rfl rfl rfl (zac (.inl rfl) (ev1 rfl)) ?_
  refine zaj (gd_f rfl rfl rfl) rfl rfl rfl (op_len rfl sl22 (ev2 rfl)) ?_
  refine zaj (gd_f rfl rfl rfl) rfl rfl rfl (op_lss rfl (ev2 rfl) (ev2 rfl)) ?_
  refine zab rfl rfl rfl (op_or rfl (ev1 rfl) (ev3 rfl id)) ?_
  refine zaf ?_
  refine dwp_if_f rfl (by rw [filt_len]; unfold dueB at hd; cases g1 : chkM m <;> cases g2 : risL l <;> cases g3 : l.all mayR <;> simp [g1, g2, g3, errOr] at hd ⊢ <;> omega) ?_
  refine zal ?_
  refine zae ?_
  refine zad ?_
  refine zab rfl rfl rfl (zac (.inl rfl) (ev1 rfl)) ?_
  refine zab rfl rfl rfl (zac (.inr rfl) (ev1 rfl)) ?_
  refine zaf ?_
  refine zae ?_
  refine zae ?_
  refine zad ?_
  refine zab rfl rfl rfl (zac (.inl rfl) (ev1 rfl)) ?_
  refine zab rfl rfl rfl (op_lenm rfl sl26 (ev1 rfl)) ?_
  refine zab rfl rfl rfl (op_gtr rfl (ev1 rfl) (ev1 rfl)) ?_
  refine zaf ?_
  refine dwp_cond rfl (fun c2 => ?_) (fun c2 => ?_)
  · try simp only [decide_eq_true_eq, decide_eq_false_iff_not, beq_iff_eq, bne_iff_ne, beq_eq_false_iff_ne, bne_eq_false_iff_eq, Bool.not_eq_true', Bool.not_eq_false', Bool.and_eq_true, Bool.or_eq_true, Bool.or_eq_false_iff, ne_eq, Decidable.not_not, Int.not_lt, Int.not_le] at c2
    have hbl : behI m l = l.filter (fun i : I3 => lessR m[m.length - 1].i i) := by unfold behI; rw [if_neg (by omega), gM (by omega)]
    refine zae ?_
    refine zak 1 (by simp only [holes, List.cons_append, List.nil_append]; exact rfl) ?_
    refine zad ?_
    refine zab rfl rfl rfl (zac (.inl rfl) (ev1 rfl)) ?_
    refine zab rfl rfl rfl (zac (.inl rfl) (ev1 rfl)) ?_
    refine zab rfl rfl rfl (op_lenm rfl sl26 (ev1 rfl)) ?_
    refine zab rfl rfl rfl (op_sub' rfl (ev1 rfl) (ev1 rfl) (fun _ => IntWalk.i64_in _ (by omega))) ?_
    refine zab rfl rfl rfl (op_ixmr (m.length - 1) (by decide) rfl sl26 (ev1 rfl) (ev1 rfl) (fun _ => by omega) (by omega) (fun _ => rfl)) ?_
    refine zab rfl rfl rfl (op_fadm rfl fo44_0 (ev1 rfl)) ?_
    refine zab rfl rfl rfl (op_lddv [_, _, _] rfl tb35 (ev1 rfl) rfl rfl) ?_
    refine zan rfl rfl rfl (op_alloc 1 rfl zr35 rfl) (by simp only [upd, za, zaa]; exact rfl) ?_
    refine walk_s rfl rfl (op_stwa rfl tb35 (ev1 rfl) (ev1 rfl) rfl rfl rfl rfl) (by simp only [upd, za, zaa]; exact rfl) ?_
    refine zaf ?_
    refine zad ?_
    refine zab rfl rfl rfl (zac (.inl rfl) (ev1 rfl)) ?_
    refine zab rfl rfl rfl (op_mkf rfl en (ec (ev1 rfl) en)) ?_
    refine zan rfl rfl rfl (zah [1] [] [] rfl (ev1 rfl) (ec (ev1 rfl) (ec (ev1 rfl) en)) rfl rfl (stay2_d l (by omega) _) rfl rfl rfl rfl rfl rfl) (by simp only [upd, za, zaa]; exact rfl) ?_
    refine zab rfl rfl rfl (zac (.inr rfl) (ev1 rfl)) ?_
    refine zaf ?_
    refine zae ?_
    refine zak 1 (by simp only [holes, List.cons_append, List.nil_append]; exact rfl) ?_
    refine zad ?_
    refine zan rfl rfl rfl (op_alloc 2 rfl zr3 rfl) (by simp only [upd, za, zaa]; exact rfl) ?_
    refine walk_s rfl rfl (op_stwi rfl tb3 (ev1 rfl) (ev1 rfl) rfl) (by simp only [upd, za, zaa]; exact rfl) ?_
    refine zaf ?_
    refine zae ?_
    refine zak 1 (by simp only [holes, List.cons_append, List.nil_append]; exact rfl) ?_
    refine zad ?_
    refine zab rfl rfl rfl (zac (.inl rfl) (ev1 rfl)) ?_
    refine zab rfl rfl rfl (op_mkf rfl en (ec (ev1 rfl) (ec (ev1 rfl) en))) ?_
    refine zan rfl rfl rfl (zah [2, 0] [] [3] rfl (ev1 rfl) (ec (ev1 rfl) (ec (ev1 rfl) en)) rfl rfl (stay3_o (l.filter (fun i : I3 => lessR m[m.length - 1].i i)) (Nat.le_trans (List.length_filter_le _ _) h2) e he) rfl rfl rfl rfl rfl rfl) (by simp only [upd, za, zaa]; exact rfl) ?_
    refine zab rfl rfl rfl (zac (.inr rfl) (ev1 rfl)) ?_
    refine zaf ?_
    refine dwp_ret ?_
    refine kend [3] (rs1 rfl (rv_t rfl)) rfl rfl ?_ ⟨?_, trivial⟩
    rfl
    exact (by rw [hbl]; rfl)
  · try simp only [decide_eq_true_eq, decide_eq_false_iff_not, beq_iff_eq, bne_iff_ne, beq_eq_false_iff_ne, bne_eq_false_iff_eq, Bool.not_eq_true', Bool.not_eq_false', Bool.and_eq_true, Bool.or_eq_true, Bool.or_eq_false_iff, ne_eq, Decidable.not_not, Int.not_lt, Int.not_le] at c2
    have hbl : behI m l = l := by unfold behI; rw [if_pos (by omega)]
    refine zal ?_
    refine zae ?_
    refine zak 1 (by simp only [holes, List.cons_append, List.nil_append]; exact rfl) ?_
    refine zad ?_
    refine zan rfl rfl rfl (op_alloc 1 rfl zr3 rfl) (by simp only [upd, za, zaa]; exact rfl) ?_
    refine walk_s rfl rfl (op_stwi rfl tb3 (ev1 rfl) (ev1 rfl) rfl) (by simp only [upd, za, zaa]; exact rfl) ?_
    refine zaf ?_
    refine zae ?_
    refine zak 1 (by simp only [holes, List.cons_append, List.nil_append]; exact rfl) ?_
    refine zad ?_
    refine zab rfl rfl rfl (zac (.inl rfl) (ev1 rfl)) ?_
    refine zab rfl rfl rfl (op_mkf rfl en (ec (ev1 rfl) (ec (ev1 rfl) en))) ?_
    refine zan rfl rfl rfl (zah [1, 0] [] [2] rfl (ev1 rfl) (ec (ev1 rfl) (ec (ev1 rfl) en)) rfl rfl (stay3_o l (h2) e he) rfl rfl rfl rfl rfl rfl) (by simp only [upd, za, zaa]; exact rfl) ?_
    refine zab rfl rfl rfl (zac (.inr rfl) (ev1 rfl)) ?_
    refine zaf ?_
    refine dwp_ret ?_
    refine kend [2] (rs1 rfl (rv_t rfl)) rfl rfl ?_ ⟨?_, trivial⟩
    rfl
    exact (by rw [hbl]; rfl)
def dueM (m : List Mk) (l : List I3) (e : Int) : List I3 := if dueB m l e = true then dueL e (behI m l) else []
theorem due_d (m : List Mk) (l : List I3) (e : Int) (h : m.length ≤ 5000) (h2 : l.length ≤ 5000) : DFun Try.prog 29 [.slm 4 (m).length ((m).flatMap mkC), .slf 3 l.length (l.flatMap idc), .val (.int .i64 e)] [] (.slf 3 (dueM m l e).length ((dueM m l e).flatMap idc)) [] := by
  unfold dueM
  cases hd : dueB m l e
  · exact (due_no m l e h h2 hd).wk (Wk.slf0 3)
  · exact freeze (due_ok m l e h h2 hd) rfl
end Go.Proofs.Ytmpodnadoebclaa
namespace Go.Proofs.Ytmpodnadoebclaa
set_option maxRecDepth 4000
set_option linter.unusedVariables false
set_option linter.unusedSimpArgs false
open Go.RowKit
abbrev pipR (ts : List TL) : List D := ts.map fun t => .pip (tc t)
theorem pipR_ok (ts : List TL) : RowOk (pipR ts) ts := by
  refine ⟨by simp, ?_, by simp [D.oc2], fun q d t h1 h2 => ?_⟩
  · induction ts with
    | nil => rfl
    | cons t ts ih => rw [pipR, List.map_cons, D.nlL]; exact ih
  · rw [List.getElem?_map, h2] at h1
    cases h1
    exact Wk.pipf _
theorem cv_pip {ps : List D} {us : List TL} (w h : Int) (hl : ps.length = us.length) (hw : ∀ (q : Nat) d t, ps[q]? = some d → us[q]? = some t → Wk d (.pip (tc t))) : Wk (cvD w h ps) (cvD w h (pipR us)) := by
  have hl2 : WkL ps (pipR us) := ⟨by simp [hl], fun j d d' h1 h2 => by
    rw [List.getElem?_map] at h2
    cases e : us[j]? with
    | none => rw [e] at h2; cases h2
    | some t => rw [e] at h2; cases h2; exact hw j d t h1 e⟩
  have hn : D.nlL (pipR us) = true := (pipR_ok us).nl
  have e : (pipR us).length = ps.length := by simp [hl]
  rw [cvD, cvD, e]
  exact Wk.dpm (.cons (.refl _) (.cons (.refl _) (.cons (Wk.slm hl2 hn) .nil))) (by simp [D.nlL, D.nl])
theorem cnew_p : DFun Try.prog 49 [.val (.int .i64 2), .val (.int .i64 1)] [] (.tup [cvD 2 1 (pipR (List.replicate 2 (nT zC4))), .val (.int .i64 0)]) [] :=
  (cnew_i 2 1 2 rfl rfl).fun fun I d hd => by
    obtain ⟨e, ⟨A, hA, _, rfl⟩, rfl⟩ := hd
    refine Wk.tup (.cons (cv_pip 2 1 (pinsR_len hA) fun q d t h1 h2 => ?_) (.cons (.refl _) .nil))
    obtain ⟨b, u, _, h4, rfl⟩ := pinsR_at h1
    rw [h2] at h4
    cases h4
    exact Wk.pip _ _
theorem with_p (w h : Int) (ts : List TL) (hc : CvOk w h ts) (l : List Dt) : DFun Try.prog 50 [cvD w h (pipR ts), .slf 6 l.length (l.flatMap dtC)] [] (cvD w h (pipR (putsC w h ts l))) [] :=
  (with_i w h _ ts (pipR_ok ts) hc l).fun fun I d hf => by
    obtain ⟨ps, h1, rfl⟩ := hf
    have hl : ps.length = (putsC w h ts l).length := by rw [h1.len, putsC_len]; simp
    refine cv_pip w h hl fun q d t g1 g2 => ?_
    by_cases e : (putsC w h ts l)[q]? = ts[q]?
    · have g3 := h1.eq q e
      rw [g1, List.getElem?_map, ← e, g2] at g3
      cases g3
      exact .refl _
    · obtain ⟨b, _, g3⟩ := h1.ne q t g2 (fun g => e (g2.trans g.symm))
      rw [g1] at g3
      cases g3
      exact Wk.pip _ _
def dotN (n : Int) : Dt := ⟨andZ .i64 n 15, andZ .i64 (n / 2 ^ 4) 7, ⟨IntKind.u8.wrap n, 0, 0, 255⟩⟩
def pnT (n : Int) : List TL := putsC 2 1 (List.replicate 2 (nT zC4)) [dotN n]
theorem two_ok : CvOk 2 1 (List.replicate 2 (nT zC4)) := ⟨by decide, by simp⟩
theorem pnT_ok (n : Int) : CvOk 2 1 (pnT n) := CvOk.puts two_ok _
def mkN (i : I3) (n : Int) : Mk := ⟨i, pipR (pnT n), pnT n, pipR_ok _, pnT_ok n⟩
def rowM (ids : List I3) (b : Int) : List Mk := (List.range ids.length).map fun k => mkN (ids.getD k zI3) (b + (k : Int))
theorem rowM_len (ids : List I3) (b : Int) : (rowM ids b).length = ids.length := by simp [rowM]
def rowT (ids : List I3) (b : Int) (k : Nat) : List Mk := (List.range k).map fun k => mkN (ids.getD k zI3) (b + (k : Int))
theorem rowT_len (ids : List I3) (b : Int) (k : Nat) : (rowT ids b k).length = k := by simp [rowT]
theorem rowT_add {ids : List I3} {b : Int} {k : Nat} (h : k < ids.length) : rowT ids b (k + 1) = rowT ids b k ++ [mkN ids[k] (b + (k : Int))] := by
  unfold rowT
  rw [List.range_succ, List.map_append, ← gI h]
  rfl
end Go.Proofs.Ytmpodnadoebclaa
