/- a number laid in digits; how many digits; bits, and digits, counted; more types; numbers told in digits; the texts of ids, the code's and the document's; more types; ids: what may be, and how they stand; the order; insertion sort; rows that are copied, and sorted; what rises; rows that are the same; what rises; clocks; clocks that see times; rows in the order of the document; what rises, told. No condition. -/
import Derived.Test.YtaekkjhpdendoaaDoorQ2
namespace Go.Proofs.YtaekkjhpdendoaaDoor
set_option linter.unusedVariables false
set_option linter.unusedSimpArgs false
open Go.RowKit
theorem lt_len {a b c : Nat} (h : a < b) (e : c = b) : a < c := by omega
set_option maxRecDepth 4000 in
set_option maxHeartbeats 1000000 in
theorem fmtB_d (l : List Nat) (u : Int) (n o nd0 : Nat) (hu : u = (n : Int)) (hn : n < 10 ^ nd0) (h64 : n < 18446744073709551616) (ho : o + nd0 ≤ l.length) (hl : l.length = 24) : DFun Tryd.prog 66 [.own 0 1 o nd0, .val (.int .u64 u)] [.arr 103 1 24 (l.flatMap b8)] (.tup []) [.arr 103 1 24 ((memD l o nd0 n (nd0)).flatMap b8)] := by
  refine dcalls_go (N := 167) 1 (by kernel_rfl) Tryd.func66 rfl rfl rfl (by simp only [fr0, Nat.zero_add, Nat.reduceAdd]; exact rfl) rfl fun s0 hs0 => ?_
  refine dwp_seq ?_
  refine dwp_region ?_
  refine walk_r rfl rfl rfl (op_move (.inl rfl) (ev1 rfl)) ?_
  refine walk_r rfl rfl rfl (op_leno rfl sl100 (ev1 rfl)) ?_
  refine walk_r rfl rfl rfl (op_move (.inr rfl) (ev1 rfl)) ?_
  refine walk_nil ?_
  refine dwp_seq ?_
  refine dwp_block ?_
  refine dwp_loopS ⟨hs0, rfl⟩ (α := Nat) (fun k => [(1, .val (.int .u64 ((n / 10 ^ k : Nat) : Int))), (4, .val (.int .i64 ((nd0 - k : Nat) : Int)))]) [(0, _)] (fun k => [(0, .arr 103 1 24 ((memD l o nd0 n (k)).flatMap b8))]) [.hole] (fun k => k ≤ nd0) (fun k => nd0 - k) 0 [0] (Nat.zero_le _) rfl ⟨rfl, trivial⟩ ⟨by simp [hu]; rfl, rfl, trivial⟩ ⟨by rw [memD_0]; rfl, trivial⟩ ?_
  intro k hx
  simp only [upd, List.set_cons_zero, List.set_cons_succ, List.cons_append, List.nil_append]
  have hk := hx
  refine dwp_seq ?_
  refine dwp_seq ?_
  refine dwp_region ?_
  refine walk_r rfl rfl rfl (op_move (.inl rfl) (ev1 rfl)) ?_
  refine walk_r rfl rfl rfl (op_geq rfl (ev1 rfl) (ev1 rfl)) ?_
  refine walk_nil ?_
  refine dwp_cond rfl (fun c1 => ?_) (fun c1 => ?_)
  · try simp only [decide_eq_true_eq, decide_eq_false_iff_not, beq_iff_eq, bne_iff_ne, beq_eq_false_iff_ne, bne_eq_false_iff_eq, Bool.not_eq_true', Bool.not_eq_false', Bool.and_eq_true, Bool.or_eq_true, Bool.or_eq_false_iff, ne_eq, Decidable.not_not, Int.not_lt, Int.not_le] at c1
    refine dwp_skip ?_
    refine dwp_block ?_
    refine dwp_seq ?_
    obtain ⟨v, hv⟩ : ∃ v : Nat, v = n / 10 ^ k := ⟨_, rfl⟩
    have hvn : v ≤ n := by rw [hv]; exact Nat.div_le_self _ _
    rw [← hv]
    refine dwp_region ?_
    refine walk_r rfl rfl rfl (op_move (.inl rfl) (ev1 rfl)) ?_
    refine walk_r rfl rfl rfl (op_rem' rfl (ev1 rfl) (ev1 rfl) (fun _ => ⟨by omega, by omega⟩)) ?_
    refine walk_r rfl rfl rfl (op_conv' ty25 kn114 rfl (ev1 rfl) (fun _ => IntWalk.u32_in _ (by omega))) ?_
    refine walk_r rfl rfl rfl (op_move (.inr rfl) (ev1 rfl)) ?_
    refine walk_nil ?_
    refine dwp_seq ?_
    refine dwp_region ?_
    refine walk_r rfl rfl rfl (op_move (.inl rfl) (ev1 rfl)) ?_
    refine walk_r rfl rfl rfl (op_quo' rfl (ev1 rfl) (ev1 rfl) (fun _ => ⟨by omega, by omega, IntWalk.u64_in _ (by omega)⟩)) ?_
    refine walk_r rfl rfl rfl (op_move (.inr rfl) (ev1 rfl)) ?_
    refine walk_nil ?_
    refine dwp_seq ?_
    refine dwp_region ?_
    refine walk_r rfl rfl rfl (op_move (.inl rfl) (ev1 rfl)) ?_
    refine walk_r rfl rfl rfl (op_quo' rfl (ev1 rfl) (ev1 rfl) (fun _ => ⟨by omega, by omega, IntWalk.u32_in _ (by omega)⟩)) ?_
    refine walk_r rfl rfl rfl (op_move (.inl rfl) (ev1 rfl)) ?_
    refine walk_r rfl rfl rfl (op_rem' rfl (ev1 rfl) (ev1 rfl) (fun _ => ⟨by omega, by omega⟩)) ?_
    refine walk_r rfl rfl rfl (op_move (.inr rfl) (ev1 rfl)) ?_
    refine walk_r rfl rfl rfl (op_move (.inr rfl) (ev1 rfl)) ?_
    refine walk_nil ?_
    refine dwp_seq ?_
    refine dwp_region ?_
    refine walk_r rfl rfl rfl (op_move (.inl rfl) (ev1 rfl)) ?_
    refine walk_r rfl rfl rfl (op_quo' rfl (ev1 rfl) (ev1 rfl) (fun _ => ⟨by omega, by omega, IntWalk.u32_in _ (by omega)⟩)) ?_
    refine walk_r rfl rfl rfl (op_mul' rfl (ev1 rfl) (ev1 rfl) (fun _ => IntWalk.u32_in _ (by omega))) ?_
    refine walk_r rfl rfl rfl (op_move (.inl rfl) (ev1 rfl)) ?_
    refine walk_r rfl rfl rfl (op_rem' rfl (ev1 rfl) (ev1 rfl) (fun _ => ⟨by omega, by omega⟩)) ?_
    refine walk_r rfl rfl rfl (op_mul' rfl (ev1 rfl) (ev1 rfl) (fun _ => IntWalk.u32_in _ (by omega))) ?_
    refine walk_r rfl rfl rfl (op_move (.inr rfl) (ev1 rfl)) ?_
    refine walk_r rfl rfl rfl (op_move (.inr rfl) (ev1 rfl)) ?_
    refine walk_nil ?_
    refine dwp_seq ?_
    refine dwp_region ?_
    refine walk_r rfl rfl rfl (op_move (.inl rfl) (ev1 rfl)) ?_
    refine walk_r rfl rfl rfl (op_quo' rfl (ev1 rfl) (ev1 rfl) (fun _ => ⟨by omega, by omega, IntWalk.u32_in _ (by omega)⟩)) ?_
    refine walk_r rfl rfl rfl (op_mul' rfl (ev1 rfl) (ev1 rfl) (fun _ => IntWalk.u32_in _ (by omega))) ?_
    refine walk_r rfl rfl rfl (op_move (.inl rfl) (ev1 rfl)) ?_
    refine walk_r rfl rfl rfl (op_rem' rfl (ev1 rfl) (ev1 rfl) (fun _ => ⟨by omega, by omega⟩)) ?_
    refine walk_r rfl rfl rfl (op_mul' rfl (ev1 rfl) (ev1 rfl) (fun _ => IntWalk.u32_in _ (by omega))) ?_
    refine walk_r rfl rfl rfl (op_move (.inr rfl) (ev1 rfl)) ?_
    refine walk_r rfl rfl rfl (op_move (.inr rfl) (ev1 rfl)) ?_
    refine walk_nil ?_
    refine dwp_seq ?_
    refine dwp_draw [([], []), ([], []), ([], []), ([], []), ([], []), ([], []), ([], []), ([], []), ([], []), ([], []), ([], []), ([], []), ([0], [0]), ([], []), ([0], [0])] mixed (by kernel_rfl) ?_
    refine lex_r rfl rfl (op_move (.inl rfl) (ev1 rfl)) ?_
    refine lex_r rfl rfl (op_move (.inl rfl) (ev1 rfl)) ?_
    refine lex_r rfl rfl (op_sub' rfl (ev1 rfl) (ev1 rfl) (fun _ => IntWalk.i64_in _ (by omega))) ?_
    refine lex_r rfl rfl (op_move (.inl rfl) (ev1 rfl)) ?_
    refine lex_r rfl rfl (op_move (.inl rfl) (ev1 rfl)) ?_
    refine lex_r rfl rfl (op_sub' rfl (ev1 rfl) (ev1 rfl) (fun _ => IntWalk.i64_in _ (by omega))) ?_
    refine lex_r rfl rfl (op_move (.inl rfl) (ev1 rfl)) ?_
    refine lex_r rfl rfl (op_add' rfl (ev1 rfl) (ev1 rfl) (fun _ => IntWalk.u32_in _ (by omega))) ?_
    refine lex_r rfl rfl (op_smlo (v % 100) rfl Tryd.underlying9 (ev1 rfl) (ev1 rfl) (fun _ => by omega) (fun _ => by omega)) ?_
    refine lex_r rfl rfl (op_move (.inl rfl) (ev1 rfl)) ?_
    refine lex_r rfl rfl (op_smhi (v % 100) rfl Tryd.underlying9 (ev1 rfl) (ev1 rfl) (fun _ => by omega) (fun _ => by omega)) ?_
    refine lex_r rfl rfl (op_ixo (nd0 - (k) - 1) rfl sl100 (ev1 rfl) (ev1 rfl) (fun _ => by omega) (fun _ => by omega)) ?_
    refine lex_s rfl rfl (op_staf (j := o + (nd0 - (k) - 1)) (c := 0) (0) (48 + v % 100 % 10) rfl tb5 (ev1 rfl) (ev1 rfl) rfl rfl rfl rfl (fun _ => rfl) (by rw [memD_len ho (by omega)]; omega) (Nat.le_of_ble_eq_true rfl) rfl) rfl (by simp only [upd, List.set_cons_zero, List.set_cons_succ]; exact rfl) ?_
    refine lex_r rfl rfl (op_ixo (nd0 - (k) - 2) rfl sl100 (ev1 rfl) (ev1 rfl) (fun _ => by omega) (fun _ => by omega)) ?_
    refine lex_s rfl rfl (op_staf (j := o + (nd0 - (k) - 2)) (c := 0) (0) (48 + v % 100 / 10) rfl tb5 (ev1 rfl) (ev1 rfl) rfl rfl rfl rfl (fun _ => rfl) (by rw [List.length_set, memD_len ho (by omega)]; omega) (Nat.le_of_ble_eq_true rfl) rfl) rfl (by simp only [upd, List.set_cons_zero, List.set_cons_succ]; exact rfl) ?_
    refine lex_nil ?_
    refine dwp_seq ?_
    rw [memD_2 ho (by omega) (by rw [← hv]; omega) (by rw [← hv]; omega)]
    refine dwp_draw [([], []), ([], []), ([], []), ([], []), ([], []), ([], []), ([], []), ([], []), ([], []), ([], []), ([], []), ([], []), ([0], [0]), ([], []), ([0], [0])] mixed (by kernel_rfl) ?_
    refine lex_r rfl rfl (op_move (.inl rfl) (ev1 rfl)) ?_
    refine lex_r rfl rfl (op_move (.inl rfl) (ev1 rfl)) ?_
    refine lex_r rfl rfl (op_sub' rfl (ev1 rfl) (ev1 rfl) (fun _ => IntWalk.i64_in _ (by omega))) ?_
    refine lex_r rfl rfl (op_move (.inl rfl) (ev1 rfl)) ?_
    refine lex_r rfl rfl (op_move (.inl rfl) (ev1 rfl)) ?_
    refine lex_r rfl rfl (op_sub' rfl (ev1 rfl) (ev1 rfl) (fun _ => IntWalk.i64_in _ (by omega))) ?_
    refine lex_r rfl rfl (op_move (.inl rfl) (ev1 rfl)) ?_
    refine lex_r rfl rfl (op_add' rfl (ev1 rfl) (ev1 rfl) (fun _ => IntWalk.u32_in _ (by omega))) ?_
    refine lex_r rfl rfl (op_smlo ((v / 100) % 100) rfl Tryd.underlying9 (ev1 rfl) (ev1 rfl) (fun _ => by omega) (fun _ => by omega)) ?_
    refine lex_r rfl rfl (op_move (.inl rfl) (ev1 rfl)) ?_
    refine lex_r rfl rfl (op_smhi ((v / 100) % 100) rfl Tryd.underlying9 (ev1 rfl) (ev1 rfl) (fun _ => by omega) (fun _ => by omega)) ?_
    refine lex_r rfl rfl (op_ixo (nd0 - (k + 2) - 1) rfl sl100 (ev1 rfl) (ev1 rfl) (fun _ => by omega) (fun _ => by omega)) ?_
    refine lex_s rfl rfl (op_staf (j := o + (nd0 - (k + 2) - 1)) (c := 0) (0) (48 + (v / 100) % 100 % 10) rfl tb5 (ev1 rfl) (ev1 rfl) rfl rfl rfl rfl (fun _ => rfl) (by rw [memD_len ho (by omega)]; omega) (Nat.le_of_ble_eq_true rfl) rfl) rfl (by simp only [upd, List.set_cons_zero, List.set_cons_succ]; exact rfl) ?_
    refine lex_r rfl rfl (op_ixo (nd0 - (k + 2) - 2) rfl sl100 (ev1 rfl) (ev1 rfl) (fun _ => by omega) (fun _ => by omega)) ?_
    refine lex_s rfl rfl (op_staf (j := o + (nd0 - (k + 2) - 2)) (c := 0) (0) (48 + (v / 100) % 100 / 10) rfl tb5 (ev1 rfl) (ev1 rfl) rfl rfl rfl rfl (fun _ => rfl) (by rw [List.length_set, memD_len ho (by omega)]; omega) (Nat.le_of_ble_eq_true rfl) rfl) rfl (by simp only [upd, List.set_cons_zero, List.set_cons_succ]; exact rfl) ?_
    refine lex_nil ?_
    refine dwp_seq ?_
    rw [memD_2 ho (by omega) (by rw [pow_2, ← hv]; omega) (by rw [pow_2, ← hv]; omega)]
    refine dwp_draw [([], []), ([], []), ([], []), ([], []), ([], []), ([], []), ([], []), ([], []), ([], []), ([], []), ([], []), ([], []), ([0], [0]), ([], []), ([0], [0])] mixed (by kernel_rfl) ?_
    refine lex_r rfl rfl (op_move (.inl rfl) (ev1 rfl)) ?_
    refine lex_r rfl rfl (op_move (.inl rfl) (ev1 rfl)) ?_
    refine lex_r rfl rfl (op_sub' rfl (ev1 rfl) (ev1 rfl) (fun _ => IntWalk.i64_in _ (by omega))) ?_
    refine lex_r rfl rfl (op_move (.inl rfl) (ev1 rfl)) ?_
    refine lex_r rfl rfl (op_move (.inl rfl) (ev1 rfl)) ?_
    refine lex_r rfl rfl (op_sub' rfl (ev1 rfl) (ev1 rfl) (fun _ => IntWalk.i64_in _ (by omega))) ?_
    refine lex_r rfl rfl (op_move (.inl rfl) (ev1 rfl)) ?_
    refine lex_r rfl rfl (op_add' rfl (ev1 rfl) (ev1 rfl) (fun _ => IntWalk.u32_in _ (by omega))) ?_
    refine lex_r rfl rfl (op_smlo ((v / 10000) % 100) rfl Tryd.underlying9 (ev1 rfl) (ev1 rfl) (fun _ => by omega) (fun _ => by omega)) ?_
    refine lex_r rfl rfl (op_move (.inl rfl) (ev1 rfl)) ?_
    refine lex_r rfl rfl (op_smhi ((v / 10000) % 100) rfl Tryd.underlying9 (ev1 rfl) (ev1 rfl) (fun _ => by omega) (fun _ => by omega)) ?_
    refine lex_r rfl rfl (op_ixo (nd0 - (k + 2 + 2) - 1) rfl sl100 (ev1 rfl) (ev1 rfl) (fun _ => by omega) (fun _ => by omega)) ?_
    refine lex_s rfl rfl (op_staf (j := o + (nd0 - (k + 2 + 2) - 1)) (c := 0) (0) (48 + (v / 10000) % 100 % 10) rfl tb5 (ev1 rfl) (ev1 rfl) rfl rfl rfl rfl (fun _ => rfl) (by rw [memD_len ho (by omega)]; omega) (Nat.le_of_ble_eq_true rfl) rfl) rfl (by simp only [upd, List.set_cons_zero, List.set_cons_succ]; exact rfl) ?_
    refine lex_r rfl rfl (op_ixo (nd0 - (k + 2 + 2) - 2) rfl sl100 (ev1 rfl) (ev1 rfl) (fun _ => by omega) (fun _ => by omega)) ?_
    refine lex_s rfl rfl (op_staf (j := o + (nd0 - (k + 2 + 2) - 2)) (c := 0) (0) (48 + (v / 10000) % 100 / 10) rfl tb5 (ev1 rfl) (ev1 rfl) rfl rfl rfl rfl (fun _ => rfl) (by rw [List.length_set, memD_len ho (by omega)]; omega) (Nat.le_of_ble_eq_true rfl) rfl) rfl (by simp only [upd, List.set_cons_zero, List.set_cons_succ]; exact rfl) ?_
    refine lex_nil ?_
    refine dwp_seq ?_
    rw [memD_2 ho (by omega) (by rw [show k + 2 + 2 = k + 4 by rfl, pow_4, ← hv]; omega) (by rw [show k + 2 + 2 = k + 4 by rfl, pow_4, ← hv]; omega)]
    refine dwp_draw [([], []), ([], []), ([], []), ([], []), ([], []), ([], []), ([], []), ([], []), ([], []), ([], []), ([], []), ([], []), ([0], [0]), ([], []), ([0], [0])] mixed (by kernel_rfl) ?_
    refine lex_r rfl rfl (op_move (.inl rfl) (ev1 rfl)) ?_
    refine lex_r rfl rfl (op_move (.inl rfl) (ev1 rfl)) ?_
    refine lex_r rfl rfl (op_sub' rfl (ev1 rfl) (ev1 rfl) (fun _ => IntWalk.i64_in _ (by omega))) ?_
    refine lex_r rfl rfl (op_move (.inl rfl) (ev1 rfl)) ?_
    refine lex_r rfl rfl (op_move (.inl rfl) (ev1 rfl)) ?_
    refine lex_r rfl rfl (op_sub' rfl (ev1 rfl) (ev1 rfl) (fun _ => IntWalk.i64_in _ (by omega))) ?_
    refine lex_r rfl rfl (op_move (.inl rfl) (ev1 rfl)) ?_
    refine lex_r rfl rfl (op_add' rfl (ev1 rfl) (ev1 rfl) (fun _ => IntWalk.u32_in _ (by omega))) ?_
    refine lex_r rfl rfl (op_smlo ((v / 1000000) % 100) rfl Tryd.underlying9 (ev1 rfl) (ev1 rfl) (fun _ => by omega) (fun _ => by omega)) ?_
    refine lex_r rfl rfl (op_move (.inl rfl) (ev1 rfl)) ?_
    refine lex_r rfl rfl (op_smhi ((v / 1000000) % 100) rfl Tryd.underlying9 (ev1 rfl) (ev1 rfl) (fun _ => by omega) (fun _ => by omega)) ?_
    refine lex_r rfl rfl (op_ixo (nd0 - (k + 2 + 2 + 2) - 1) rfl sl100 (ev1 rfl) (ev1 rfl) (fun _ => by omega) (fun _ => by omega)) ?_
    refine lex_s rfl rfl (op_staf (j := o + (nd0 - (k + 2 + 2 + 2) - 1)) (c := 0) (0) (48 + (v / 1000000) % 100 % 10) rfl tb5 (ev1 rfl) (ev1 rfl) rfl rfl rfl rfl (fun _ => rfl) (by rw [memD_len ho (by omega)]; omega) (Nat.le_of_ble_eq_true rfl) rfl) rfl (by simp only [upd, List.set_cons_zero, List.set_cons_succ]; exact rfl) ?_
    refine lex_r rfl rfl (op_ixo (nd0 - (k + 2 + 2 + 2) - 2) rfl sl100 (ev1 rfl) (ev1 rfl) (fun _ => by omega) (fun _ => by omega)) ?_
    refine lex_s rfl rfl (op_staf (j := o + (nd0 - (k + 2 + 2 + 2) - 2)) (c := 0) (0) (48 + (v / 1000000) % 100 / 10) rfl tb5 (ev1 rfl) (ev1 rfl) rfl rfl rfl rfl (fun _ => rfl) (by rw [List.length_set, memD_len ho (by omega)]; omega) (Nat.le_of_ble_eq_true rfl) rfl) rfl (by simp only [upd, List.set_cons_zero, List.set_cons_succ]; exact rfl) ?_
    refine lex_nil ?_
    rw [memD_2 ho (by omega) (by rw [show k + 2 + 2 + 2 = k + 4 + 2 by rfl, pow_2, pow_4, ← hv]; omega) (by rw [show k + 2 + 2 + 2 = k + 4 + 2 by rfl, pow_2, pow_4, ← hv]; omega)]
    refine dwp_region ?_
    refine walk_r rfl rfl rfl (op_move (.inl rfl) (ev1 rfl)) ?_
    refine walk_r rfl rfl rfl (op_sub' rfl (ev1 rfl) (ev1 rfl) (fun _ => IntWalk.i64_in _ (by omega))) ?_
    refine walk_r rfl rfl rfl (op_move (.inr rfl) (ev1 rfl)) ?_
    refine walk_nil ?_
    refine ⟨k + 8, [0], by omega, by simp only []; omega, rfl, ⟨congrArg (fun z => some (D.val (.int .u64 z))) (by rw [pow_8, ← hv]; omega), congrArg (fun z => some (D.val (.int .i64 z))) (by omega), rfl, trivial⟩, ⟨rfl, trivial⟩⟩
  · try simp only [decide_eq_true_eq, decide_eq_false_iff_not, beq_iff_eq, bne_iff_ne, beq_eq_false_iff_ne, bne_eq_false_iff_eq, Bool.not_eq_true', Bool.not_eq_false', Bool.and_eq_true, Bool.or_eq_true, Bool.or_eq_false_iff, ne_eq, Decidable.not_not, Int.not_lt, Int.not_le] at c1
    refine dwp_exit ?_
    refine dwp_seq ?_
    obtain ⟨v, hv⟩ : ∃ v : Nat, v = n / 10 ^ k := ⟨_, rfl⟩
    have hv7 : v < 10 ^ (nd0 - k) := by rw [hv]; exact pow_lt hn hx
    have hv8 : v < 10000000 := Nat.lt_of_lt_of_le hv7 (Nat.pow_le_pow_right (n := 10) (by decide) (show nd0 - k ≤ 7 by omega))
    rw [← hv]
    refine dwp_region ?_
    refine walk_r rfl rfl rfl (op_move (.inl rfl) (ev1 rfl)) ?_
    refine walk_r rfl rfl rfl (op_conv' ty25 kn114 rfl (ev1 rfl) (fun _ => IntWalk.u32_in _ (by omega))) ?_
    refine walk_r rfl rfl rfl (op_move (.inr rfl) (ev1 rfl)) ?_
    refine walk_nil ?_
    refine dwp_seq ?_
    refine dwp_seq ?_
    refine dwp_region ?_
    refine walk_r rfl rfl rfl (op_move (.inl rfl) (ev1 rfl)) ?_
    refine walk_r rfl rfl rfl (op_geq rfl (ev1 rfl) (ev1 rfl)) ?_
    refine walk_nil ?_
    refine dwp_cond rfl (fun c2 => ?_) (fun c2 => ?_)
    · try simp only [decide_eq_true_eq, decide_eq_false_iff_not, beq_iff_eq, bne_iff_ne, beq_eq_false_iff_ne, bne_eq_false_iff_eq, Bool.not_eq_true', Bool.not_eq_false', Bool.and_eq_true, Bool.or_eq_true, Bool.or_eq_false_iff, ne_eq, Decidable.not_not, Int.not_lt, Int.not_le] at c2
      refine dwp_seq ?_
      refine dwp_region ?_
      refine walk_r rfl rfl rfl (op_move (.inl rfl) (ev1 rfl)) ?_
      refine walk_r rfl rfl rfl (op_rem' rfl (ev1 rfl) (ev1 rfl) (fun _ => ⟨by omega, by omega⟩)) ?_
      refine walk_r rfl rfl rfl (op_move (.inr rfl) (ev1 rfl)) ?_
      refine walk_nil ?_
      refine dwp_seq ?_
      refine dwp_region ?_
      refine walk_r rfl rfl rfl (op_move (.inl rfl) (ev1 rfl)) ?_
      refine walk_r rfl rfl rfl (op_quo' rfl (ev1 rfl) (ev1 rfl) (fun _ => ⟨by omega, by omega, IntWalk.u32_in _ (by omega)⟩)) ?_
      refine walk_r rfl rfl rfl (op_move (.inr rfl) (ev1 rfl)) ?_
      refine walk_nil ?_
      refine dwp_seq ?_
      refine dwp_region ?_
      refine walk_r rfl rfl rfl (op_move (.inl rfl) (ev1 rfl)) ?_
      refine walk_r rfl rfl rfl (op_quo' rfl (ev1 rfl) (ev1 rfl) (fun _ => ⟨by omega, by omega, IntWalk.u32_in _ (by omega)⟩)) ?_
      refine walk_r rfl rfl rfl (op_mul' rfl (ev1 rfl) (ev1 rfl) (fun _ => IntWalk.u32_in _ (by omega))) ?_
      refine walk_r rfl rfl rfl (op_move (.inl rfl) (ev1 rfl)) ?_
      refine walk_r rfl rfl rfl (op_rem' rfl (ev1 rfl) (ev1 rfl) (fun _ => ⟨by omega, by omega⟩)) ?_
      refine walk_r rfl rfl rfl (op_mul' rfl (ev1 rfl) (ev1 rfl) (fun _ => IntWalk.u32_in _ (by omega))) ?_
      refine walk_r rfl rfl rfl (op_move (.inr rfl) (ev1 rfl)) ?_
      refine walk_r rfl rfl rfl (op_move (.inr rfl) (ev1 rfl)) ?_
      refine walk_nil ?_
      refine dwp_seq ?_
      refine dwp_draw [([], []), ([], []), ([], []), ([], []), ([], []), ([], []), ([], []), ([], []), ([], []), ([], []), ([], []), ([], []), ([0], [0]), ([], []), ([0], [0])] mixed (by kernel_rfl) ?_
      refine lex_r rfl rfl (op_move (.inl rfl) (ev1 rfl)) ?_
      refine lex_r rfl rfl (op_move (.inl rfl) (ev1 rfl)) ?_
      refine lex_r rfl rfl (op_sub' rfl (ev1 rfl) (ev1 rfl) (fun _ => IntWalk.i64_in _ (by omega))) ?_
      refine lex_r rfl rfl (op_move (.inl rfl) (ev1 rfl)) ?_
      refine lex_r rfl rfl (op_move (.inl rfl) (ev1 rfl)) ?_
      refine lex_r rfl rfl (op_sub' rfl (ev1 rfl) (ev1 rfl) (fun _ => IntWalk.i64_in _ (by omega))) ?_
      refine lex_r rfl rfl (op_move (.inl rfl) (ev1 rfl)) ?_
      refine lex_r rfl rfl (op_add' rfl (ev1 rfl) (ev1 rfl) (fun _ => IntWalk.u32_in _ (by omega))) ?_
      refine lex_r rfl rfl (op_smlo (v % 100) rfl Tryd.underlying9 (ev1 rfl) (ev1 rfl) (fun _ => by omega) (fun _ => by omega)) ?_
      refine lex_r rfl rfl (op_move (.inl rfl) (ev1 rfl)) ?_
      refine lex_r rfl rfl (op_smhi (v % 100) rfl Tryd.underlying9 (ev1 rfl) (ev1 rfl) (fun _ => by omega) (fun _ => by omega)) ?_
      refine lex_r rfl rfl (op_ixo (nd0 - (k) - 1) rfl sl100 (ev1 rfl) (ev1 rfl) (fun _ => by omega) (fun _ => by omega)) ?_
      refine lex_s rfl rfl (op_staf (j := o + (nd0 - (k) - 1)) (c := 0) (0) (48 + v % 100 % 10) rfl tb5 (ev1 rfl) (ev1 rfl) rfl rfl rfl rfl (fun _ => rfl) (by rw [memD_len ho (by omega)]; omega) (Nat.le_of_ble_eq_true rfl) rfl) rfl (by simp only [upd, List.set_cons_zero, List.set_cons_succ]; exact rfl) ?_
      refine lex_r rfl rfl (op_ixo (nd0 - (k) - 2) rfl sl100 (ev1 rfl) (ev1 rfl) (fun _ => by omega) (fun _ => by omega)) ?_
      refine lex_s rfl rfl (op_staf (j := o + (nd0 - (k) - 2)) (c := 0) (0) (48 + v % 100 / 10) rfl tb5 (ev1 rfl) (ev1 rfl) rfl rfl rfl rfl (fun _ => rfl) (by rw [List.length_set, memD_len ho (by omega)]; omega) (Nat.le_of_ble_eq_true rfl) rfl) rfl (by simp only [upd, List.set_cons_zero, List.set_cons_succ]; exact rfl) ?_
      refine lex_nil ?_
      refine dwp_seq ?_
      rw [memD_2 ho (by omega) (by rw [← hv]; omega) (by rw [← hv]; omega)]
      refine dwp_draw [([], []), ([], []), ([], []), ([], []), ([], []), ([], []), ([], []), ([], []), ([], []), ([], []), ([], []), ([], []), ([0], [0]), ([], []), ([0], [0])] mixed (by kernel_rfl) ?_
      refine lex_r rfl rfl (op_move (.inl rfl) (ev1 rfl)) ?_
      refine lex_r rfl rfl (op_move (.inl rfl) (ev1 rfl)) ?_
      refine lex_r rfl rfl (op_sub' rfl (ev1 rfl) (ev1 rfl) (fun _ => IntWalk.i64_in _ (by omega))) ?_
      refine lex_r rfl rfl (op_move (.inl rfl) (ev1 rfl)) ?_
      refine lex_r rfl rfl (op_move (.inl rfl) (ev1 rfl)) ?_
      refine lex_r rfl rfl (op_sub' rfl (ev1 rfl) (ev1 rfl) (fun _ => IntWalk.i64_in _ (by omega))) ?_
      refine lex_r rfl rfl (op_move (.inl rfl) (ev1 rfl)) ?_
      refine lex_r rfl rfl (op_add' rfl (ev1 rfl) (ev1 rfl) (fun _ => IntWalk.u32_in _ (by omega))) ?_
      refine lex_r rfl rfl (op_smlo ((v / 100) % 100) rfl Tryd.underlying9 (ev1 rfl) (ev1 rfl) (fun _ => by omega) (fun _ => by omega)) ?_
      refine lex_r rfl rfl (op_move (.inl rfl) (ev1 rfl)) ?_
      refine lex_r rfl rfl (op_smhi ((v / 100) % 100) rfl Tryd.underlying9 (ev1 rfl) (ev1 rfl) (fun _ => by omega) (fun _ => by omega)) ?_
      refine lex_r rfl rfl (op_ixo (nd0 - (k + 2) - 1) rfl sl100 (ev1 rfl) (ev1 rfl) (fun _ => by omega) (fun _ => by omega)) ?_
      refine lex_s rfl rfl (op_staf (j := o + (nd0 - (k + 2) - 1)) (c := 0) (0) (48 + (v / 100) % 100 % 10) rfl tb5 (ev1 rfl) (ev1 rfl) rfl rfl rfl rfl (fun _ => rfl) (by rw [memD_len ho (by omega)]; omega) (Nat.le_of_ble_eq_true rfl) rfl) rfl (by simp only [upd, List.set_cons_zero, List.set_cons_succ]; exact rfl) ?_
      refine lex_r rfl rfl (op_ixo (nd0 - (k + 2) - 2) rfl sl100 (ev1 rfl) (ev1 rfl) (fun _ => by omega) (fun _ => by omega)) ?_
      refine lex_s rfl rfl (op_staf (j := o + (nd0 - (k + 2) - 2)) (c := 0) (0) (48 + (v / 100) % 100 / 10) rfl tb5 (ev1 rfl) (ev1 rfl) rfl rfl rfl rfl (fun _ => rfl) (by rw [List.length_set, memD_len ho (by omega)]; omega) (Nat.le_of_ble_eq_true rfl) rfl) rfl (by simp only [upd, List.set_cons_zero, List.set_cons_succ]; exact rfl) ?_
      refine lex_nil ?_
      rw [memD_2 ho (by omega) (by rw [pow_2, ← hv]; omega) (by rw [pow_2, ← hv]; omega)]
      refine dwp_region ?_
      refine walk_r rfl rfl rfl (op_move (.inl rfl) (ev1 rfl)) ?_
      refine walk_r rfl rfl rfl (op_sub' rfl (ev1 rfl) (ev1 rfl) (fun _ => IntWalk.i64_in _ (by omega))) ?_
      refine walk_r rfl rfl rfl (op_move (.inr rfl) (ev1 rfl)) ?_
      refine walk_nil ?_
      refine dwp_seq ?_
      refine dwp_seq ?_
      refine dwp_region ?_
      refine walk_r rfl rfl rfl (op_move (.inl rfl) (ev1 rfl)) ?_
      refine walk_r rfl rfl rfl (op_geq rfl (ev1 rfl) (ev1 rfl)) ?_
      refine walk_nil ?_
      refine dwp_cond rfl (fun c3 => ?_) (fun c3 => ?_)
      · try simp only [decide_eq_true_eq, decide_eq_false_iff_not, beq_iff_eq, bne_iff_ne, beq_eq_false_iff_ne, bne_eq_false_iff_eq, Bool.not_eq_true', Bool.not_eq_false', Bool.and_eq_true, Bool.or_eq_true, Bool.or_eq_false_iff, ne_eq, Decidable.not_not, Int.not_lt, Int.not_le] at c3
        refine dwp_seq ?_
        refine dwp_region ?_
        refine walk_r rfl rfl rfl (op_move (.inl rfl) (ev1 rfl)) ?_
        refine walk_r rfl rfl rfl (op_rem' rfl (ev1 rfl) (ev1 rfl) (fun _ => ⟨by omega, by omega⟩)) ?_
        refine walk_r rfl rfl rfl (op_mul' rfl (ev1 rfl) (ev1 rfl) (fun _ => IntWalk.u32_in _ (by omega))) ?_
        refine walk_r rfl rfl rfl (op_move (.inr rfl) (ev1 rfl)) ?_
        refine walk_nil ?_
        refine dwp_seq ?_
        refine dwp_region ?_
        refine walk_r rfl rfl rfl (op_move (.inl rfl) (ev1 rfl)) ?_
        refine walk_r rfl rfl rfl (op_quo' rfl (ev1 rfl) (ev1 rfl) (fun _ => ⟨by omega, by omega, IntWalk.u32_in _ (by omega)⟩)) ?_
        refine walk_r rfl rfl rfl (op_move (.inr rfl) (ev1 rfl)) ?_
        refine walk_nil ?_
        refine dwp_seq ?_
        refine dwp_draw [([], []), ([], []), ([], []), ([], []), ([], []), ([], []), ([], []), ([], []), ([], []), ([], []), ([], []), ([], []), ([0], [0]), ([], []), ([0], [0])] mixed (by kernel_rfl) ?_
        refine lex_r rfl rfl (op_move (.inl rfl) (ev1 rfl)) ?_
        refine lex_r rfl rfl (op_move (.inl rfl) (ev1 rfl)) ?_
        refine lex_r rfl rfl (op_sub' rfl (ev1 rfl) (ev1 rfl) (fun _ => IntWalk.i64_in _ (by omega))) ?_
        refine lex_r rfl rfl (op_move (.inl rfl) (ev1 rfl)) ?_
        refine lex_r rfl rfl (op_move (.inl rfl) (ev1 rfl)) ?_
        refine lex_r rfl rfl (op_sub' rfl (ev1 rfl) (ev1 rfl) (fun _ => IntWalk.i64_in _ (by omega))) ?_
        refine lex_r rfl rfl (op_move (.inl rfl) (ev1 rfl)) ?_
        refine lex_r rfl rfl (op_add' rfl (ev1 rfl) (ev1 rfl) (fun _ => IntWalk.u32_in _ (by omega))) ?_
        refine lex_r rfl rfl (op_smlo ((v / 10000) % 100) rfl Tryd.underlying9 (ev1 rfl) (ev1 rfl) (fun _ => by omega) (fun _ => by omega)) ?_
        refine lex_r rfl rfl (op_move (.inl rfl) (ev1 rfl)) ?_
        refine lex_r rfl rfl (op_smhi ((v / 10000) % 100) rfl Tryd.underlying9 (ev1 rfl) (ev1 rfl) (fun _ => by omega) (fun _ => by omega)) ?_
        refine lex_r rfl rfl (op_ixo (nd0 - (k + 4) - 1) rfl sl100 (ev1 rfl) (ev1 rfl) (fun _ => by omega) (fun _ => by omega)) ?_
        refine lex_s rfl rfl (op_staf (j := o + (nd0 - (k + 4) - 1)) (c := 0) (0) (48 + (v / 10000) % 100 % 10) rfl tb5 (ev1 rfl) (ev1 rfl) rfl rfl rfl rfl (fun _ => rfl) (by rw [memD_len ho (by omega)]; omega) (Nat.le_of_ble_eq_true rfl) rfl) rfl (by simp only [upd, List.set_cons_zero, List.set_cons_succ]; exact rfl) ?_
        refine lex_r rfl rfl (op_ixo (nd0 - (k + 4) - 2) rfl sl100 (ev1 rfl) (ev1 rfl) (fun _ => by omega) (fun _ => by omega)) ?_
        refine lex_s rfl rfl (op_staf (j := o + (nd0 - (k + 4) - 2)) (c := 0) (0) (48 + (v / 10000) % 100 / 10) rfl tb5 (ev1 rfl) (ev1 rfl) rfl rfl rfl rfl (fun _ => rfl) (by rw [List.length_set, memD_len ho (by omega)]; omega) (Nat.le_of_ble_eq_true rfl) rfl) rfl (by simp only [upd, List.set_cons_zero, List.set_cons_succ]; exact rfl) ?_
        refine lex_nil ?_
        rw [memD_2 ho (by omega) (by rw [pow_4, ← hv]; omega) (by rw [pow_4, ← hv]; omega)]
        refine dwp_region ?_
        refine walk_r rfl rfl rfl (op_move (.inl rfl) (ev1 rfl)) ?_
        refine walk_r rfl rfl rfl (op_sub' rfl (ev1 rfl) (ev1 rfl) (fun _ => IntWalk.i64_in _ (by omega))) ?_
        refine walk_r rfl rfl rfl (op_move (.inr rfl) (ev1 rfl)) ?_
        refine walk_nil ?_
        refine dwp_seq ?_
        have hs9 : v / 1000000 < 10 := by
          have h9 : v < 10000000 := Nat.lt_of_lt_of_le hv7 (Nat.pow_le_pow_right (n := 10) (by decide) (show nd0 - k ≤ 7 by omega))
          omega
        refine dwp_region ?_
        refine walk_r rfl rfl rfl (op_move (.inl rfl) (ev1 rfl)) ?_
        refine walk_r rfl rfl rfl (op_gtr rfl (ev1 rfl) (ev1 rfl)) ?_
        refine walk_nil ?_
        refine dwp_cond rfl (fun c4 => ?_) (fun c4 => ?_)
        · try simp only [decide_eq_true_eq, decide_eq_false_iff_not, beq_iff_eq, bne_iff_ne, beq_eq_false_iff_ne, bne_eq_false_iff_eq, Bool.not_eq_true', Bool.not_eq_false', Bool.and_eq_true, Bool.or_eq_true, Bool.or_eq_false_iff, ne_eq, Decidable.not_not, Int.not_lt, Int.not_le] at c4
          refine dwp_region ?_
          refine walk_r rfl rfl rfl (op_move (.inl rfl) (ev1 rfl)) ?_
          refine walk_r rfl rfl rfl (op_move (.inl rfl) (ev1 rfl)) ?_
          refine walk_r rfl rfl rfl (op_add' rfl (ev1 rfl) (ev1 rfl) (fun _ => IntWalk.u32_in _ (by omega))) ?_
          refine walk_r rfl rfl rfl ((op_conv' ty114 kn5 rfl (ev1 rfl) (fun _ => IntWalk.u8_in _ (by omega))).cast (d' := .val (.int .u8 ((48 + ((v / 10000) / 100) % 10 : Nat) : Int))) (congrArg (fun z => D.val (.int .u8 z)) (by omega))) ?_
          refine walk_r rfl rfl rfl (op_ixo (0) rfl sl100 (ev1 rfl) (ev1 rfl) (fun _ => rfl) (fun _ => by omega)) ?_
          refine walk_s rfl rfl (op_staf (en := b8) (j := o + 0) (c := 0) (0) (48 + ((v / 10000) / 100) % 10) rfl tb5 (ev1 rfl) (ev1 rfl) rfl rfl rfl rfl (fun _ => rfl) (fun _ => @lt_len _ l.length _ (by omega) (memD_len ho (by omega))) (Nat.le_of_ble_eq_true rfl) rfl) (by simp only [upd, List.set_cons_zero, List.set_cons_succ]; exact rfl) ?_
          refine walk_nil ?_
          refine kend [0] (res_none rfl) rfl rfl ?_ ⟨?_, trivial⟩
          rfl
          rw [memD_1 ho (by omega) (by rw [pow_2, pow_4, ← hv])]
          exact congrArg (fun q => some (Blk.arr 103 1 24 (List.flatMap b8 (memD l o nd0 n q)))) (by omega)
        · try simp only [decide_eq_true_eq, decide_eq_false_iff_not, beq_iff_eq, bne_iff_ne, beq_eq_false_iff_ne, bne_eq_false_iff_eq, Bool.not_eq_true', Bool.not_eq_false', Bool.and_eq_true, Bool.or_eq_true, Bool.or_eq_false_iff, ne_eq, Decidable.not_not, Int.not_lt, Int.not_le] at c4
          refine dwp_skip ?_
          refine kend [0] (res_none rfl) rfl rfl ?_ ⟨?_, trivial⟩
          rfl
          exact congrArg (fun q => some (Blk.arr 103 1 24 (List.flatMap b8 (memD l o nd0 n q)))) (by omega)
      · try simp only [decide_eq_true_eq, decide_eq_false_iff_not, beq_iff_eq, bne_iff_ne, beq_eq_false_iff_ne, bne_eq_false_iff_eq, Bool.not_eq_true', Bool.not_eq_false', Bool.and_eq_true, Bool.or_eq_true, Bool.or_eq_false_iff, ne_eq, Decidable.not_not, Int.not_lt, Int.not_le] at c3
        refine dwp_skip ?_
        refine dwp_seq ?_
        have hs9 : v / 10000 < 10 := by
          have h9 : v < 100000 := Nat.lt_of_lt_of_le hv7 (Nat.pow_le_pow_right (n := 10) (by decide) (show nd0 - k ≤ 5 by omega))
          omega
        refine dwp_region ?_
        refine walk_r rfl rfl rfl (op_move (.inl rfl) (ev1 rfl)) ?_
        refine walk_r rfl rfl rfl (op_gtr rfl (ev1 rfl) (ev1 rfl)) ?_
        refine walk_nil ?_
        refine dwp_cond rfl (fun c5 => ?_) (fun c5 => ?_)
        · try simp only [decide_eq_true_eq, decide_eq_false_iff_not, beq_iff_eq, bne_iff_ne, beq_eq_false_iff_ne, bne_eq_false_iff_eq, Bool.not_eq_true', Bool.not_eq_false', Bool.and_eq_true, Bool.or_eq_true, Bool.or_eq_false_iff, ne_eq, Decidable.not_not, Int.not_lt, Int.not_le] at c5
          refine dwp_region ?_
          refine walk_r rfl rfl rfl (op_move (.inl rfl) (ev1 rfl)) ?_
          refine walk_r rfl rfl rfl (op_move (.inl rfl) (ev1 rfl)) ?_
          refine walk_r rfl rfl rfl (op_add' rfl (ev1 rfl) (ev1 rfl) (fun _ => IntWalk.u32_in _ (by omega))) ?_
          refine walk_r rfl rfl rfl ((op_conv' ty114 kn5 rfl (ev1 rfl) (fun _ => IntWalk.u8_in _ (by omega))).cast (d' := .val (.int .u8 ((48 + (v / 10000) % 10 : Nat) : Int))) (congrArg (fun z => D.val (.int .u8 z)) (by omega))) ?_
          refine walk_r rfl rfl rfl (op_ixo (0) rfl sl100 (ev1 rfl) (ev1 rfl) (fun _ => rfl) (fun _ => by omega)) ?_
          refine walk_s rfl rfl (op_staf (en := b8) (j := o + 0) (c := 0) (0) (48 + (v / 10000) % 10) rfl tb5 (ev1 rfl) (ev1 rfl) rfl rfl rfl rfl (fun _ => rfl) (fun _ => @lt_len _ l.length _ (by omega) (memD_len ho (by omega))) (Nat.le_of_ble_eq_true rfl) rfl) (by simp only [upd, List.set_cons_zero, List.set_cons_succ]; exact rfl) ?_
          refine walk_nil ?_
          refine kend [0] (res_none rfl) rfl rfl ?_ ⟨?_, trivial⟩
          rfl
          rw [memD_1 ho (by omega) (by rw [pow_4, ← hv])]
          exact congrArg (fun q => some (Blk.arr 103 1 24 (List.flatMap b8 (memD l o nd0 n q)))) (by omega)
        · try simp only [decide_eq_true_eq, decide_eq_false_iff_not, beq_iff_eq, bne_iff_ne, beq_eq_false_iff_ne, bne_eq_false_iff_eq, Bool.not_eq_true', Bool.not_eq_false', Bool.and_eq_true, Bool.or_eq_true, Bool.or_eq_false_iff, ne_eq, Decidable.not_not, Int.not_lt, Int.not_le] at c5
          refine dwp_skip ?_
          refine kend [0] (res_none rfl) rfl rfl ?_ ⟨?_, trivial⟩
          rfl
          exact congrArg (fun q => some (Blk.arr 103 1 24 (List.flatMap b8 (memD l o nd0 n q)))) (by omega)
    · try simp only [decide_eq_true_eq, decide_eq_false_iff_not, beq_iff_eq, bne_iff_ne, beq_eq_false_iff_ne, bne_eq_false_iff_eq, Bool.not_eq_true', Bool.not_eq_false', Bool.and_eq_true, Bool.or_eq_true, Bool.or_eq_false_iff, ne_eq, Decidable.not_not, Int.not_lt, Int.not_le] at c2
      refine dwp_skip ?_
      refine dwp_seq ?_
      refine dwp_seq ?_
      refine dwp_region ?_
      refine walk_r rfl rfl rfl (op_move (.inl rfl) (ev1 rfl)) ?_
      refine walk_r rfl rfl rfl (op_geq rfl (ev1 rfl) (ev1 rfl)) ?_
      refine walk_nil ?_
      refine dwp_cond rfl (fun c6 => ?_) (fun c6 => ?_)
      · try simp only [decide_eq_true_eq, decide_eq_false_iff_not, beq_iff_eq, bne_iff_ne, beq_eq_false_iff_ne, bne_eq_false_iff_eq, Bool.not_eq_true', Bool.not_eq_false', Bool.and_eq_true, Bool.or_eq_true, Bool.or_eq_false_iff, ne_eq, Decidable.not_not, Int.not_lt, Int.not_le] at c6
        refine dwp_seq ?_
        refine dwp_region ?_
        refine walk_r rfl rfl rfl (op_move (.inl rfl) (ev1 rfl)) ?_
        refine walk_r rfl rfl rfl (op_rem' rfl (ev1 rfl) (ev1 rfl) (fun _ => ⟨by omega, by omega⟩)) ?_
        refine walk_r rfl rfl rfl (op_mul' rfl (ev1 rfl) (ev1 rfl) (fun _ => IntWalk.u32_in _ (by omega))) ?_
        refine walk_r rfl rfl rfl (op_move (.inr rfl) (ev1 rfl)) ?_
        refine walk_nil ?_
        refine dwp_seq ?_
        refine dwp_region ?_
        refine walk_r rfl rfl rfl (op_move (.inl rfl) (ev1 rfl)) ?_
        refine walk_r rfl rfl rfl (op_quo' rfl (ev1 rfl) (ev1 rfl) (fun _ => ⟨by omega, by omega, IntWalk.u32_in _ (by omega)⟩)) ?_
        refine walk_r rfl rfl rfl (op_move (.inr rfl) (ev1 rfl)) ?_
        refine walk_nil ?_
        refine dwp_seq ?_
        refine dwp_draw [([], []), ([], []), ([], []), ([], []), ([], []), ([], []), ([], []), ([], []), ([], []), ([], []), ([], []), ([], []), ([0], [0]), ([], []), ([0], [0])] mixed (by kernel_rfl) ?_
        refine lex_r rfl rfl (op_move (.inl rfl) (ev1 rfl)) ?_
        refine lex_r rfl rfl (op_move (.inl rfl) (ev1 rfl)) ?_
        refine lex_r rfl rfl (op_sub' rfl (ev1 rfl) (ev1 rfl) (fun _ => IntWalk.i64_in _ (by omega))) ?_
        refine lex_r rfl rfl (op_move (.inl rfl) (ev1 rfl)) ?_
        refine lex_r rfl rfl (op_move (.inl rfl) (ev1 rfl)) ?_
        refine lex_r rfl rfl (op_sub' rfl (ev1 rfl) (ev1 rfl) (fun _ => IntWalk.i64_in _ (by omega))) ?_
        refine lex_r rfl rfl (op_move (.inl rfl) (ev1 rfl)) ?_
        refine lex_r rfl rfl (op_add' rfl (ev1 rfl) (ev1 rfl) (fun _ => IntWalk.u32_in _ (by omega))) ?_
        refine lex_r rfl rfl (op_smlo (v % 100) rfl Tryd.underlying9 (ev1 rfl) (ev1 rfl) (fun _ => by omega) (fun _ => by omega)) ?_
        refine lex_r rfl rfl (op_move (.inl rfl) (ev1 rfl)) ?_
        refine lex_r rfl rfl (op_smhi (v % 100) rfl Tryd.underlying9 (ev1 rfl) (ev1 rfl) (fun _ => by omega) (fun _ => by omega)) ?_
        refine lex_r rfl rfl (op_ixo (nd0 - (k) - 1) rfl sl100 (ev1 rfl) (ev1 rfl) (fun _ => by omega) (fun _ => by omega)) ?_
        refine lex_s rfl rfl (op_staf (j := o + (nd0 - (k) - 1)) (c := 0) (0) (48 + v % 100 % 10) rfl tb5 (ev1 rfl) (ev1 rfl) rfl rfl rfl rfl (fun _ => rfl) (by rw [memD_len ho (by omega)]; omega) (Nat.le_of_ble_eq_true rfl) rfl) rfl (by simp only [upd, List.set_cons_zero, List.set_cons_succ]; exact rfl) ?_
        refine lex_r rfl rfl (op_ixo (nd0 - (k) - 2) rfl sl100 (ev1 rfl) (ev1 rfl) (fun _ => by omega) (fun _ => by omega)) ?_
        refine lex_s rfl rfl (op_staf (j := o + (nd0 - (k) - 2)) (c := 0) (0) (48 + v % 100 / 10) rfl tb5 (ev1 rfl) (ev1 rfl) rfl rfl rfl rfl (fun _ => rfl) (by rw [List.length_set, memD_len ho (by omega)]; omega) (Nat.le_of_ble_eq_true rfl) rfl) rfl (by simp only [upd, List.set_cons_zero, List.set_cons_succ]; exact rfl) ?_
        refine lex_nil ?_
        rw [memD_2 ho (by omega) (by rw [← hv]; omega) (by rw [← hv]; omega)]
        refine dwp_region ?_
        refine walk_r rfl rfl rfl (op_move (.inl rfl) (ev1 rfl)) ?_
        refine walk_r rfl rfl rfl (op_sub' rfl (ev1 rfl) (ev1 rfl) (fun _ => IntWalk.i64_in _ (by omega))) ?_
        refine walk_r rfl rfl rfl (op_move (.inr rfl) (ev1 rfl)) ?_
        refine walk_nil ?_
        refine dwp_seq ?_
        have hs9 : v / 100 < 10 := by
          have h9 : v < 1000 := Nat.lt_of_lt_of_le hv7 (Nat.pow_le_pow_right (n := 10) (by decide) (show nd0 - k ≤ 3 by omega))
          omega
        refine dwp_region ?_
        refine walk_r rfl rfl rfl (op_move (.inl rfl) (ev1 rfl)) ?_
        refine walk_r rfl rfl rfl (op_gtr rfl (ev1 rfl) (ev1 rfl)) ?_
        refine walk_nil ?_
        refine dwp_cond rfl (fun c7 => ?_) (fun c7 => ?_)
        · try simp only [decide_eq_true_eq, decide_eq_false_iff_not, beq_iff_eq, bne_iff_ne, beq_eq_false_iff_ne, bne_eq_false_iff_eq, Bool.not_eq_true', Bool.not_eq_false', Bool.and_eq_true, Bool.or_eq_true, Bool.or_eq_false_iff, ne_eq, Decidable.not_not, Int.not_lt, Int.not_le] at c7
          refine dwp_region ?_
          refine walk_r rfl rfl rfl (op_move (.inl rfl) (ev1 rfl)) ?_
          refine walk_r rfl rfl rfl (op_move (.inl rfl) (ev1 rfl)) ?_
          refine walk_r rfl rfl rfl (op_add' rfl (ev1 rfl) (ev1 rfl) (fun _ => IntWalk.u32_in _ (by omega))) ?_
          refine walk_r rfl rfl rfl ((op_conv' ty114 kn5 rfl (ev1 rfl) (fun _ => IntWalk.u8_in _ (by omega))).cast (d' := .val (.int .u8 ((48 + (v / 100) % 10 : Nat) : Int))) (congrArg (fun z => D.val (.int .u8 z)) (by omega))) ?_
          refine walk_r rfl rfl rfl (op_ixo (0) rfl sl100 (ev1 rfl) (ev1 rfl) (fun _ => rfl) (fun _ => by omega)) ?_
          refine walk_s rfl rfl (op_staf (en := b8) (j := o + 0) (c := 0) (0) (48 + (v / 100) % 10) rfl tb5 (ev1 rfl) (ev1 rfl) rfl rfl rfl rfl (fun _ => rfl) (fun _ => @lt_len _ l.length _ (by omega) (memD_len ho (by omega))) (Nat.le_of_ble_eq_true rfl) rfl) (by simp only [upd, List.set_cons_zero, List.set_cons_succ]; exact rfl) ?_
          refine walk_nil ?_
          refine kend [0] (res_none rfl) rfl rfl ?_ ⟨?_, trivial⟩
          rfl
          rw [memD_1 ho (by omega) (by rw [pow_2, ← hv])]
          exact congrArg (fun q => some (Blk.arr 103 1 24 (List.flatMap b8 (memD l o nd0 n q)))) (by omega)
        · try simp only [decide_eq_true_eq, decide_eq_false_iff_not, beq_iff_eq, bne_iff_ne, beq_eq_false_iff_ne, bne_eq_false_iff_eq, Bool.not_eq_true', Bool.not_eq_false', Bool.and_eq_true, Bool.or_eq_true, Bool.or_eq_false_iff, ne_eq, Decidable.not_not, Int.not_lt, Int.not_le] at c7
          refine dwp_skip ?_
          refine kend [0] (res_none rfl) rfl rfl ?_ ⟨?_, trivial⟩
          rfl
          exact congrArg (fun q => some (Blk.arr 103 1 24 (List.flatMap b8 (memD l o nd0 n q)))) (by omega)
      · try simp only [decide_eq_true_eq, decide_eq_false_iff_not, beq_iff_eq, bne_iff_ne, beq_eq_false_iff_ne, bne_eq_false_iff_eq, Bool.not_eq_true', Bool.not_eq_false', Bool.and_eq_true, Bool.or_eq_true, Bool.or_eq_false_iff, ne_eq, Decidable.not_not, Int.not_lt, Int.not_le] at c6
        refine dwp_skip ?_
        refine dwp_seq ?_
        have hs9 : v < 10 := by
          have h9 : v < 10 := Nat.lt_of_lt_of_le hv7 (Nat.pow_le_pow_right (n := 10) (by decide) (show nd0 - k ≤ 1 by omega))
          omega
        refine dwp_region ?_
        refine walk_r rfl rfl rfl (op_move (.inl rfl) (ev1 rfl)) ?_
        refine walk_r rfl rfl rfl (op_gtr rfl (ev1 rfl) (ev1 rfl)) ?_
        refine walk_nil ?_
        refine dwp_cond rfl (fun c8 => ?_) (fun c8 => ?_)
        · try simp only [decide_eq_true_eq, decide_eq_false_iff_not, beq_iff_eq, bne_iff_ne, beq_eq_false_iff_ne, bne_eq_false_iff_eq, Bool.not_eq_true', Bool.not_eq_false', Bool.and_eq_true, Bool.or_eq_true, Bool.or_eq_false_iff, ne_eq, Decidable.not_not, Int.not_lt, Int.not_le] at c8
          refine dwp_region ?_
          refine walk_r rfl rfl rfl (op_move (.inl rfl) (ev1 rfl)) ?_
          refine walk_r rfl rfl rfl (op_move (.inl rfl) (ev1 rfl)) ?_
          refine walk_r rfl rfl rfl (op_add' rfl (ev1 rfl) (ev1 rfl) (fun _ => IntWalk.u32_in _ (by omega))) ?_
          refine walk_r rfl rfl rfl ((op_conv' ty114 kn5 rfl (ev1 rfl) (fun _ => IntWalk.u8_in _ (by omega))).cast (d' := .val (.int .u8 ((48 + v % 10 : Nat) : Int))) (congrArg (fun z => D.val (.int .u8 z)) (by omega))) ?_
          refine walk_r rfl rfl rfl (op_ixo (0) rfl sl100 (ev1 rfl) (ev1 rfl) (fun _ => rfl) (fun _ => by omega)) ?_
          refine walk_s rfl rfl (op_staf (en := b8) (j := o + 0) (c := 0) (0) (48 + v % 10) rfl tb5 (ev1 rfl) (ev1 rfl) rfl rfl rfl rfl (fun _ => rfl) (fun _ => @lt_len _ l.length _ (by omega) (memD_len ho (by omega))) (Nat.le_of_ble_eq_true rfl) rfl) (by simp only [upd, List.set_cons_zero, List.set_cons_succ]; exact rfl) ?_
          refine walk_nil ?_
          refine kend [0] (res_none rfl) rfl rfl ?_ ⟨?_, trivial⟩
          rfl
          rw [memD_1 ho (by omega) (by rw [← hv])]
          exact congrArg (fun q => some (Blk.arr 103 1 24 (List.flatMap b8 (memD l o nd0 n q)))) (by omega)
        · try simp only [decide_eq_true_eq, decide_eq_false_iff_not, beq_iff_eq, bne_iff_ne, beq_eq_false_iff_ne, bne_eq_false_iff_eq, Bool.not_eq_true', Bool.not_eq_false', Bool.and_eq_true, Bool.or_eq_true, Bool.or_eq_false_iff, ne_eq, Decidable.not_not, Int.not_lt, Int.not_le] at c8
          refine dwp_skip ?_
          refine kend [0] (res_none rfl) rfl rfl ?_ ⟨?_, trivial⟩
          rfl
          exact congrArg (fun q => some (Blk.arr 103 1 24 (List.flatMap b8 (memD l o nd0 n q)))) (by omega)
end Go.Proofs.YtaekkjhpdendoaaDoor

namespace Go.Proofs.YtaekkjhpdendoaaDoor
set_option linter.unusedVariables false
set_option linter.unusedSimpArgs false
open Go.RowKit
/-- how many bits -/
def blen (n : Nat) : Nat := if n = 0 then 0 else Nat.log2 n + 1
theorem blen_lt {n : Nat} : n < 2 ^ blen n := by
  unfold blen
  split
  · rename_i h; subst h; decide
  · exact Nat.lt_log2_self
theorem blen_le {n : Nat} (h : n ≠ 0) : 2 ^ (blen n - 1) ≤ n := by
  unfold blen
  rw [if_neg h]
  exact Nat.log2_self_le h
theorem blen_of {n b : Nat} (h1 : 2 ^ b ≤ n) (h2 : n < 2 ^ (b + 1)) : blen n = b + 1 := by
  have h0 : n ≠ 0 := fun e => by
    subst e
    have : 0 < 2 ^ b := Nat.pos_of_ne_zero (fun h => by simp at h)
    omega
  have h3 := blen_lt (n := n)
  have h4 := blen_le h0
  have h5 : 1 ≤ blen n := by unfold blen; rw [if_neg h0]; omega
  have a1 : b < blen n := by
    rcases Nat.lt_or_ge b (blen n) with h | h
    · exact h
    · have := Nat.pow_le_pow_right (n := 2) (by decide) h; omega
  have a2 : blen n - 1 < b + 1 := by
    rcases Nat.lt_or_ge (blen n - 1) (b + 1) with h | h
    · exact h
    · have := Nat.pow_le_pow_right (n := 2) (by decide) h; omega
  omega
theorem blen_sh {n s : Nat} (h : 2 ^ s ≤ n) : blen n = s + blen (n / 2 ^ s) := by
  have hp : 0 < 2 ^ s := Nat.pos_of_ne_zero (fun h => by simp at h)
  have h0 : n / 2 ^ s ≠ 0 := fun e => by
    rw [Nat.div_eq_zero_iff] at e
    omega
  have h1 := blen_le h0
  have h2 := blen_lt (n := n / 2 ^ s)
  have h3 : 1 ≤ blen (n / 2 ^ s) := by unfold blen; rw [if_neg h0]; omega
  have e : blen n = (s + (blen (n / 2 ^ s) - 1)) + 1 := blen_of (by
    rw [Nat.pow_add, Nat.mul_comm]
    exact (Nat.le_div_iff_mul_le hp).1 h1) (by
    rw [show s + (blen (n / 2 ^ s) - 1) + 1 = blen (n / 2 ^ s) + s by omega, Nat.pow_add]
    exact (Nat.div_lt_iff_lt_mul hp).1 h2)
  omega
def len8L : List Nat := (List.range 256).map blen
theorem len8_B : isB len8L := by
  have : len8L.all (fun x => decide (x < 256)) = true := by decide +kernel
  exact fun x hx => of_decide_eq_true (List.all_eq_true.1 this x hx)
theorem len8_len : len8L.length = 256 := by simp [len8L]
theorem len8_at {x : Nat} (h : x < 256) : len8L.getD x 0 = blen x := by
  unfold len8L
  rw [List.getD_eq_getElem?_getD, List.getElem?_map, List.getElem?_range h]
  rfl
/-- so many digits, by the bits -/
def ndig (n : Nat) : Nat := blen n * 78913 / 262144
theorem ndig_rng {n : Nat} (h : n < 2 ^ 64) : ndig n < 20 := by
  have : blen n ≤ 64 := by
    rcases Nat.lt_or_ge 64 (blen n) with h1 | h1
    · have h0 : n ≠ 0 := fun e => by subst e; simp [blen] at h1
      have := blen_le h0
      have := Nat.pow_le_pow_right (n := 2) (by decide) (show 64 ≤ blen n - 1 by omega)
      omega
    · exact h1
  unfold ndig
  omega
theorem ndig_dg {n : Nat} (h1 : 1 ≤ n) (h : n < 2 ^ 64) : (dg n).length = ndig n + (if 10 ^ ndig n ≤ n then 1 else 0) := by
  have h0 : n ≠ 0 := by omega
  have hb : blen n ≤ 64 := by
    rcases Nat.lt_or_ge 64 (blen n) with h2 | h2
    · have := blen_le h0
      have := Nat.pow_le_pow_right (n := 2) (by decide) (show 64 ≤ blen n - 1 by omega)
      omega
    · exact h2
  have hb1 : 1 ≤ blen n := by unfold blen; rw [if_neg h0]; omega
  have key : ∀ b, b < 65 → 1 ≤ b → (b * 78913 / 262144 = 0 ∨ 10 ^ (b * 78913 / 262144 - 1) ≤ 2 ^ (b - 1)) ∧ 2 ^ b ≤ 10 ^ (b * 78913 / 262144 + 1) := by decide +kernel
  obtain ⟨k1, k2⟩ := key (blen n) (by omega) hb1
  have b1 := blen_lt (n := n)
  have b2 := blen_le h0
  change ndig n = 0 ∨ 10 ^ (ndig n - 1) ≤ _ at k1
  change _ ≤ 10 ^ (ndig n + 1) at k2
  split
  · rename_i hd
    exact dg_len (ndig n) n (.inl hd) (by omega)
  · rename_i hd
    rcases k1 with k1 | k1
    · rw [k1] at hd; simp at hd; omega
    · by_cases e : ndig n = 0
      · rw [e] at hd; simp at hd; omega
      · have := dg_len (ndig n - 1) n (.inl (by omega)) (by rw [show ndig n - 1 + 1 = ndig n by omega]; omega)
        rw [this]; omega
end Go.Proofs.YtaekkjhpdendoaaDoor

namespace Go.Proofs.YtaekkjhpdendoaaDoor
set_option linter.unusedVariables false
set_option linter.unusedSimpArgs false
open Go.RowKit
theorem len64_fin {n s d : Nat} (hd : d = 2 ^ s) (h : d ≤ n) (h2 : n / d < 256) : (s : Int) + ((len8L.getD (n / d) 0 : Nat) : Int) = ((blen n : Nat) : Int) := by
  rw [len8_at h2]
  subst hd
  rw [blen_sh h]
  omega
theorem len64_0 {n : Nat} (h : n < 256) : ((len8L.getD (n / 1) 0 : Nat) : Int) = ((blen n : Nat) : Int) := by rw [Nat.div_one, len8_at h]
/-- ten's powers -/
def pow10L : List Value := (List.range 20).map fun k => .int .u64 ((10 ^ k : Nat) : Int)
theorem pow_at {d : Nat} (h : d < 20) : (pow10L.drop (((d : Nat) : Int).toNat * 1))[0]? = some (.int .u64 ((10 ^ d : Nat) : Int)) := by
  rw [List.getElem?_drop]
  simp [pow10L, h]
section
variable {P : Program} {pc : Bool} {o : Oper} {F : Fr} {M : List Blk}
theorem op_slan {T T' : TypeId} {n sz k p q : Nat} {x : Operand} {lo hi : Option Operand} {L : List Value} {l h : Int} (ho : o.op = .slice T x lo hi none) (hT : arE P T = some (n, sz)) (hx : Ev pc F x (.aloc k 0)) (hM : M[k]? = some (.arr T' sz n L)) (hlo : Bd pc F lo 0 l) (hhi : Bd pc F hi n h)
    (hl : pc = true → l = (p : Int)) (hh : pc = true → h = ((p + q : Nat) : Int)) (hb : pc = true → p + q ≤ n) : DOp P pc o F M [k] (.own k sz p q) [] := fun hp => by
  have h1 := hl hp
  have h2 := hh hp
  have := op_slal ho hT hx hM hlo hhi (fun hp => by have := hb hp; omega) hp
  rw [h1, h2, Int.toNat_natCast, Int.toNat_natCast, Nat.add_sub_cancel_left] at this
  exact this
end
theorem part_b8 (l : List Nat) (q m : Nat) : ((l.flatMap b8).drop q).take m = ((l.drop q).take m).flatMap b8 := by
  simp only [b8_map, List.map_drop, List.map_take]
def len8C : ByteArray := ⟨#[0, 1, 2, 2, 3, 3, 3, 3, 4, 4, 4, 4, 4, 4, 4, 4, 5, 5, 5, 5, 5, 5, 5, 5, 5, 5, 5, 5, 5, 5, 5, 5, 6, 6, 6, 6, 6, 6, 6, 6, 6, 6, 6, 6, 6, 6, 6, 6, 6, 6, 6, 6, 6, 6, 6, 6, 6, 6, 6, 6, 6, 6, 6, 6, 7, 7, 7, 7, 7, 7, 7, 7, 7, 7, 7, 7, 7, 7, 7, 7, 7, 7, 7, 7, 7, 7, 7, 7, 7, 7, 7, 7, 7, 7, 7, 7, 7, 7, 7, 7, 7, 7, 7, 7, 7, 7, 7, 7, 7, 7, 7, 7, 7, 7, 7, 7, 7, 7, 7, 7, 7, 7, 7, 7, 7, 7, 7, 7, 8, 8, 8, 8, 8, 8, 8, 8, 8, 8, 8, 8, 8, 8, 8, 8, 8, 8, 8, 8, 8, 8, 8, 8, 8, 8, 8, 8, 8, 8, 8, 8, 8, 8, 8, 8, 8, 8, 8, 8, 8, 8, 8, 8, 8, 8, 8, 8, 8, 8, 8, 8, 8, 8, 8, 8, 8, 8, 8, 8, 8, 8, 8, 8, 8, 8, 8, 8, 8, 8, 8, 8, 8, 8, 8, 8, 8, 8, 8, 8, 8, 8, 8, 8, 8, 8, 8, 8, 8, 8, 8, 8, 8, 8, 8, 8, 8, 8, 8, 8, 8, 8, 8, 8, 8, 8, 8, 8, 8, 8, 8, 8, 8, 8, 8, 8, 8, 8, 8, 8, 8, 8, 8, 8, 8, 8, 8, 8]⟩
theorem len8_val : strN len8L = len8C := by decide +kernel
theorem len8_lt (j : Nat) : len8L.getD j 0 < 256 := by
  by_cases h : j < len8L.length
  · rw [List.getD_eq_getElem?_getD, List.getElem?_eq_getElem h]
    exact len8_B _ (List.getElem_mem h)
  · rw [List.getD_eq_getElem?_getD, List.getElem?_eq_none (by omega)]
    decide
theorem op_len8 {P : Program} {pc : Bool} {o : Oper} {F : Fr} {M : List Blk} {T : TypeId} {x y : Operand} {k : IntKind} {z : Int} (j : Nat) (ho : o.op = .index T x y) (hT : P.underlying T = some .string) (hx : Ev pc F x (.val (.string len8C))) (hy : Ev pc F y (.val (.int k z))) (hz : pc = true → z = (j : Int)) (hj : pc = true → j < 256) : DOp P pc o F M [] (.val (.int .u8 ((len8L.getD j 0 : Nat) : Int))) [] :=
  op_ixn j len8_B ho hT (by rw [len8_val]; exact hx) hy hz (fun hp => by rw [len8_len]; exact hj hp)
set_option maxRecDepth 4000 in
set_option maxHeartbeats 1000000 in
theorem len64_d (z : Int) (n : Nat) (hz : z = (n : Int)) (hn : n < 18446744073709551616) : DFun Tryd.prog 72 [.val (.int .u64 z)] [] (.val (.int .i64 ((blen n : Nat) : Int))) [] := by
  refine dcalls_go (N := 25) 0 (by kernel_rfl) Tryd.func72 rfl rfl rfl (by simp only [fr0, Nat.zero_add, Nat.reduceAdd]; exact rfl) rfl fun s0 hs0 => ?_
  refine dwp_seq ?_
  refine dwp_region ?_
  refine walk_r rfl rfl rfl (op_move (.inr rfl) (ev1 rfl)) ?_
  refine walk_nil ?_
  refine dwp_seq ?_
  refine dwp_seq ?_
  refine dwp_region ?_
  refine walk_r rfl rfl rfl (op_move (.inl rfl) (ev1 rfl)) ?_
  refine walk_r rfl rfl rfl (op_geq rfl (ev1 rfl) (ev1 rfl)) ?_
  refine walk_nil ?_
  refine dwp_cond rfl (fun c1 => ?_) (fun c1 => ?_)
  · try simp only [decide_eq_true_eq, decide_eq_false_iff_not, beq_iff_eq, bne_iff_ne, beq_eq_false_iff_ne, bne_eq_false_iff_eq, Bool.not_eq_true', Bool.not_eq_false', Bool.and_eq_true, Bool.or_eq_true, Bool.or_eq_false_iff, ne_eq, Decidable.not_not, Int.not_lt, Int.not_le] at c1
    refine dwp_seq ?_
    refine dwp_region ?_
    refine walk_r rfl rfl rfl (op_move (.inl rfl) (ev1 rfl)) ?_
    refine walk_r rfl rfl rfl (op_shr (32) rfl (ev1 rfl) (ev1 rfl) (fun hp => by first | exact ⟨by omega, by decide⟩ | (simp [IntKind.bits]; omega))) ?_
    refine walk_r rfl rfl rfl (op_move (.inr rfl) (ev1 rfl)) ?_
    refine walk_nil ?_
    refine dwp_region ?_
    refine walk_r rfl rfl rfl (op_move (.inr rfl) (ev1 rfl)) ?_
    refine walk_nil ?_
    refine dwp_seq ?_
    refine dwp_seq ?_
    refine dwp_region ?_
    refine walk_r rfl rfl rfl (op_move (.inl rfl) (ev1 rfl)) ?_
    refine walk_r rfl rfl rfl (op_geq rfl (ev1 rfl) (ev1 rfl)) ?_
    refine walk_nil ?_
    refine dwp_cond rfl (fun c2 => ?_) (fun c2 => ?_)
    · try simp only [decide_eq_true_eq, decide_eq_false_iff_not, beq_iff_eq, bne_iff_ne, beq_eq_false_iff_ne, bne_eq_false_iff_eq, Bool.not_eq_true', Bool.not_eq_false', Bool.and_eq_true, Bool.or_eq_true, Bool.or_eq_false_iff, ne_eq, Decidable.not_not, Int.not_lt, Int.not_le] at c2
      refine dwp_seq ?_
      refine dwp_region ?_
      refine walk_r rfl rfl rfl (op_move (.inl rfl) (ev1 rfl)) ?_
      refine walk_r rfl rfl rfl (op_shr (16) rfl (ev1 rfl) (ev1 rfl) (fun hp => by first | exact ⟨by omega, by decide⟩ | (simp [IntKind.bits]; omega))) ?_
      refine walk_r rfl rfl rfl (op_move (.inr rfl) (ev1 rfl)) ?_
      refine walk_nil ?_
      refine dwp_region ?_
      refine walk_r rfl rfl rfl (op_move (.inl rfl) (ev1 rfl)) ?_
      refine walk_r rfl rfl rfl (op_add' rfl (ev1 rfl) (ev1 rfl) (fun _ => IntWalk.i64_in _ (by omega))) ?_
      refine walk_r rfl rfl rfl (op_move (.inr rfl) (ev1 rfl)) ?_
      refine walk_nil ?_
      refine dwp_seq ?_
      refine dwp_seq ?_
      refine dwp_region ?_
      refine walk_r rfl rfl rfl (op_move (.inl rfl) (ev1 rfl)) ?_
      refine walk_r rfl rfl rfl (op_geq rfl (ev1 rfl) (ev1 rfl)) ?_
      refine walk_nil ?_
      refine dwp_cond rfl (fun c3 => ?_) (fun c3 => ?_)
      · try simp only [decide_eq_true_eq, decide_eq_false_iff_not, beq_iff_eq, bne_iff_ne, beq_eq_false_iff_ne, bne_eq_false_iff_eq, Bool.not_eq_true', Bool.not_eq_false', Bool.and_eq_true, Bool.or_eq_true, Bool.or_eq_false_iff, ne_eq, Decidable.not_not, Int.not_lt, Int.not_le] at c3
        refine dwp_seq ?_
        refine dwp_region ?_
        refine walk_r rfl rfl rfl (op_move (.inl rfl) (ev1 rfl)) ?_
        refine walk_r rfl rfl rfl (op_shr (8) rfl (ev1 rfl) (ev1 rfl) (fun hp => by first | exact ⟨by omega, by decide⟩ | (simp [IntKind.bits]; omega))) ?_
        refine walk_r rfl rfl rfl (op_move (.inr rfl) (ev1 rfl)) ?_
        refine walk_nil ?_
        refine dwp_region ?_
        refine walk_r rfl rfl rfl (op_move (.inl rfl) (ev1 rfl)) ?_
        refine walk_r rfl rfl rfl (op_add' rfl (ev1 rfl) (ev1 rfl) (fun _ => IntWalk.i64_in _ (by omega))) ?_
        refine walk_r rfl rfl rfl (op_move (.inr rfl) (ev1 rfl)) ?_
        refine walk_nil ?_
        refine dwp_seq ?_
        refine dwp_region ?_
        refine walk_r rfl rfl rfl (op_move (.inl rfl) (ev1 rfl)) ?_
        refine walk_r rfl rfl rfl (op_move (.inl rfl) (ev1 rfl)) ?_
        refine walk_r rfl rfl rfl (op_conv' ty25 kn5 rfl (ev1 rfl) (fun _ => IntWalk.u8_in _ (by omega))) ?_
        refine walk_r rfl rfl rfl (op_len8 (n / 72057594037927936) rfl Tryd.underlying9 (ev1 rfl) (ev1 rfl) (fun _ => by omega) (fun _ => by omega)) ?_
        refine walk_r rfl rfl rfl (op_conv' ty5 kn3 rfl (ev1 rfl) (fun _ => IntWalk.i64_in _ (by have := len8_lt (n / 72057594037927936); omega))) ?_
        refine walk_r rfl rfl rfl (op_add' rfl (ev1 rfl) (ev1 rfl) (fun _ => IntWalk.i64_in _ (by have := len8_lt (n / 72057594037927936); omega))) ?_
        refine walk_r rfl rfl rfl (op_move (.inr rfl) (ev1 rfl)) ?_
        refine walk_nil ?_
        refine dwp_ret ?_
        refine kend0 (rs1 rfl (rv_t rfl)) rfl ?_
        exact congrArg (fun z => D.val (.int .i64 z)) (by have := len64_fin (n := n) (s := 56) (d := 72057594037927936) (by decide) (by omega) (by omega); omega)
      · try simp only [decide_eq_true_eq, decide_eq_false_iff_not, beq_iff_eq, bne_iff_ne, beq_eq_false_iff_ne, bne_eq_false_iff_eq, Bool.not_eq_true', Bool.not_eq_false', Bool.and_eq_true, Bool.or_eq_true, Bool.or_eq_false_iff, ne_eq, Decidable.not_not, Int.not_lt, Int.not_le] at c3
        refine dwp_skip ?_
        refine dwp_seq ?_
        refine dwp_region ?_
        refine walk_r rfl rfl rfl (op_move (.inl rfl) (ev1 rfl)) ?_
        refine walk_r rfl rfl rfl (op_move (.inl rfl) (ev1 rfl)) ?_
        refine walk_r rfl rfl rfl (op_conv' ty25 kn5 rfl (ev1 rfl) (fun _ => IntWalk.u8_in _ (by omega))) ?_
        refine walk_r rfl rfl rfl (op_len8 (n / 281474976710656) rfl Tryd.underlying9 (ev1 rfl) (ev1 rfl) (fun _ => by omega) (fun _ => by omega)) ?_
        refine walk_r rfl rfl rfl (op_conv' ty5 kn3 rfl (ev1 rfl) (fun _ => IntWalk.i64_in _ (by have := len8_lt (n / 281474976710656); omega))) ?_
        refine walk_r rfl rfl rfl (op_add' rfl (ev1 rfl) (ev1 rfl) (fun _ => IntWalk.i64_in _ (by have := len8_lt (n / 281474976710656); omega))) ?_
        refine walk_r rfl rfl rfl (op_move (.inr rfl) (ev1 rfl)) ?_
        refine walk_nil ?_
        refine dwp_ret ?_
        refine kend0 (rs1 rfl (rv_t rfl)) rfl ?_
        exact congrArg (fun z => D.val (.int .i64 z)) (by have := len64_fin (n := n) (s := 48) (d := 281474976710656) (by decide) (by omega) (by omega); omega)
    · try simp only [decide_eq_true_eq, decide_eq_false_iff_not, beq_iff_eq, bne_iff_ne, beq_eq_false_iff_ne, bne_eq_false_iff_eq, Bool.not_eq_true', Bool.not_eq_false', Bool.and_eq_true, Bool.or_eq_true, Bool.or_eq_false_iff, ne_eq, Decidable.not_not, Int.not_lt, Int.not_le] at c2
      refine dwp_skip ?_
      refine dwp_seq ?_
      refine dwp_seq ?_
      refine dwp_region ?_
      refine walk_r rfl rfl rfl (op_move (.inl rfl) (ev1 rfl)) ?_
      refine walk_r rfl rfl rfl (op_geq rfl (ev1 rfl) (ev1 rfl)) ?_
      refine walk_nil ?_
      refine dwp_cond rfl (fun c4 => ?_) (fun c4 => ?_)
      · try simp only [decide_eq_true_eq, decide_eq_false_iff_not, beq_iff_eq, bne_iff_ne, beq_eq_false_iff_ne, bne_eq_false_iff_eq, Bool.not_eq_true', Bool.not_eq_false', Bool.and_eq_true, Bool.or_eq_true, Bool.or_eq_false_iff, ne_eq, Decidable.not_not, Int.not_lt, Int.not_le] at c4
        refine dwp_seq ?_
        refine dwp_region ?_
        refine walk_r rfl rfl rfl (op_move (.inl rfl) (ev1 rfl)) ?_
        refine walk_r rfl rfl rfl (op_shr (8) rfl (ev1 rfl) (ev1 rfl) (fun hp => by first | exact ⟨by omega, by decide⟩ | (simp [IntKind.bits]; omega))) ?_
        refine walk_r rfl rfl rfl (op_move (.inr rfl) (ev1 rfl)) ?_
        refine walk_nil ?_
        refine dwp_region ?_
        refine walk_r rfl rfl rfl (op_move (.inl rfl) (ev1 rfl)) ?_
        refine walk_r rfl rfl rfl (op_add' rfl (ev1 rfl) (ev1 rfl) (fun _ => IntWalk.i64_in _ (by omega))) ?_
        refine walk_r rfl rfl rfl (op_move (.inr rfl) (ev1 rfl)) ?_
        refine walk_nil ?_
        refine dwp_seq ?_
        refine dwp_region ?_
        refine walk_r rfl rfl rfl (op_move (.inl rfl) (ev1 rfl)) ?_
        refine walk_r rfl rfl rfl (op_move (.inl rfl) (ev1 rfl)) ?_
        refine walk_r rfl rfl rfl (op_conv' ty25 kn5 rfl (ev1 rfl) (fun _ => IntWalk.u8_in _ (by omega))) ?_
        refine walk_r rfl rfl rfl (op_len8 (n / 1099511627776) rfl Tryd.underlying9 (ev1 rfl) (ev1 rfl) (fun _ => by omega) (fun _ => by omega)) ?_
        refine walk_r rfl rfl rfl (op_conv' ty5 kn3 rfl (ev1 rfl) (fun _ => IntWalk.i64_in _ (by have := len8_lt (n / 1099511627776); omega))) ?_
        refine walk_r rfl rfl rfl (op_add' rfl (ev1 rfl) (ev1 rfl) (fun _ => IntWalk.i64_in _ (by have := len8_lt (n / 1099511627776); omega))) ?_
        refine walk_r rfl rfl rfl (op_move (.inr rfl) (ev1 rfl)) ?_
        refine walk_nil ?_
        refine dwp_ret ?_
        refine kend0 (rs1 rfl (rv_t rfl)) rfl ?_
        exact congrArg (fun z => D.val (.int .i64 z)) (by have := len64_fin (n := n) (s := 40) (d := 1099511627776) (by decide) (by omega) (by omega); omega)
      · try simp only [decide_eq_true_eq, decide_eq_false_iff_not, beq_iff_eq, bne_iff_ne, beq_eq_false_iff_ne, bne_eq_false_iff_eq, Bool.not_eq_true', Bool.not_eq_false', Bool.and_eq_true, Bool.or_eq_true, Bool.or_eq_false_iff, ne_eq, Decidable.not_not, Int.not_lt, Int.not_le] at c4
        refine dwp_skip ?_
        refine dwp_seq ?_
        refine dwp_region ?_
        refine walk_r rfl rfl rfl (op_move (.inl rfl) (ev1 rfl)) ?_
        refine walk_r rfl rfl rfl (op_move (.inl rfl) (ev1 rfl)) ?_
        refine walk_r rfl rfl rfl (op_conv' ty25 kn5 rfl (ev1 rfl) (fun _ => IntWalk.u8_in _ (by omega))) ?_
        refine walk_r rfl rfl rfl (op_len8 (n / 4294967296) rfl Tryd.underlying9 (ev1 rfl) (ev1 rfl) (fun _ => by omega) (fun _ => by omega)) ?_
        refine walk_r rfl rfl rfl (op_conv' ty5 kn3 rfl (ev1 rfl) (fun _ => IntWalk.i64_in _ (by have := len8_lt (n / 4294967296); omega))) ?_
        refine walk_r rfl rfl rfl (op_add' rfl (ev1 rfl) (ev1 rfl) (fun _ => IntWalk.i64_in _ (by have := len8_lt (n / 4294967296); omega))) ?_
        refine walk_r rfl rfl rfl (op_move (.inr rfl) (ev1 rfl)) ?_
        refine walk_nil ?_
        refine dwp_ret ?_
        refine kend0 (rs1 rfl (rv_t rfl)) rfl ?_
        exact congrArg (fun z => D.val (.int .i64 z)) (by have := len64_fin (n := n) (s := 32) (d := 4294967296) (by decide) (by omega) (by omega); omega)
  · try simp only [decide_eq_true_eq, decide_eq_false_iff_not, beq_iff_eq, bne_iff_ne, beq_eq_false_iff_ne, bne_eq_false_iff_eq, Bool.not_eq_true', Bool.not_eq_false', Bool.and_eq_true, Bool.or_eq_true, Bool.or_eq_false_iff, ne_eq, Decidable.not_not, Int.not_lt, Int.not_le] at c1
    refine dwp_skip ?_
    refine dwp_seq ?_
    refine dwp_seq ?_
    refine dwp_region ?_
    refine walk_r rfl rfl rfl (op_move (.inl rfl) (ev1 rfl)) ?_
    refine walk_r rfl rfl rfl (op_geq rfl (ev1 rfl) (ev1 rfl)) ?_
    refine walk_nil ?_
    refine dwp_cond rfl (fun c5 => ?_) (fun c5 => ?_)
    · try simp only [decide_eq_true_eq, decide_eq_false_iff_not, beq_iff_eq, bne_iff_ne, beq_eq_false_iff_ne, bne_eq_false_iff_eq, Bool.not_eq_true', Bool.not_eq_false', Bool.and_eq_true, Bool.or_eq_true, Bool.or_eq_false_iff, ne_eq, Decidable.not_not, Int.not_lt, Int.not_le] at c5
      refine dwp_seq ?_
      refine dwp_region ?_
      refine walk_r rfl rfl rfl (op_move (.inl rfl) (ev1 rfl)) ?_
      refine walk_r rfl rfl rfl (op_shr (16) rfl (ev1 rfl) (ev1 rfl) (fun hp => by first | exact ⟨by omega, by decide⟩ | (simp [IntKind.bits]; omega))) ?_
      refine walk_r rfl rfl rfl (op_move (.inr rfl) (ev1 rfl)) ?_
      refine walk_nil ?_
      refine dwp_region ?_
      refine walk_r rfl rfl rfl (op_move (.inl rfl) (ev1 rfl)) ?_
      refine walk_r rfl rfl rfl (op_add' rfl (ev1 rfl) (ev1 rfl) (fun _ => IntWalk.i64_in _ (by omega))) ?_
      refine walk_r rfl rfl rfl (op_move (.inr rfl) (ev1 rfl)) ?_
      refine walk_nil ?_
      refine dwp_seq ?_
      refine dwp_seq ?_
      refine dwp_region ?_
      refine walk_r rfl rfl rfl (op_move (.inl rfl) (ev1 rfl)) ?_
      refine walk_r rfl rfl rfl (op_geq rfl (ev1 rfl) (ev1 rfl)) ?_
      refine walk_nil ?_
      refine dwp_cond rfl (fun c6 => ?_) (fun c6 => ?_)
      · try simp only [decide_eq_true_eq, decide_eq_false_iff_not, beq_iff_eq, bne_iff_ne, beq_eq_false_iff_ne, bne_eq_false_iff_eq, Bool.not_eq_true', Bool.not_eq_false', Bool.and_eq_true, Bool.or_eq_true, Bool.or_eq_false_iff, ne_eq, Decidable.not_not, Int.not_lt, Int.not_le] at c6
        refine dwp_seq ?_
        refine dwp_region ?_
        refine walk_r rfl rfl rfl (op_move (.inl rfl) (ev1 rfl)) ?_
        refine walk_r rfl rfl rfl (op_shr (8) rfl (ev1 rfl) (ev1 rfl) (fun hp => by first | exact ⟨by omega, by decide⟩ | (simp [IntKind.bits]; omega))) ?_
        refine walk_r rfl rfl rfl (op_move (.inr rfl) (ev1 rfl)) ?_
        refine walk_nil ?_
        refine dwp_region ?_
        refine walk_r rfl rfl rfl (op_move (.inl rfl) (ev1 rfl)) ?_
        refine walk_r rfl rfl rfl (op_add' rfl (ev1 rfl) (ev1 rfl) (fun _ => IntWalk.i64_in _ (by omega))) ?_
        refine walk_r rfl rfl rfl (op_move (.inr rfl) (ev1 rfl)) ?_
        refine walk_nil ?_
        refine dwp_seq ?_
        refine dwp_region ?_
        refine walk_r rfl rfl rfl (op_move (.inl rfl) (ev1 rfl)) ?_
        refine walk_r rfl rfl rfl (op_move (.inl rfl) (ev1 rfl)) ?_
        refine walk_r rfl rfl rfl (op_conv' ty25 kn5 rfl (ev1 rfl) (fun _ => IntWalk.u8_in _ (by omega))) ?_
        refine walk_r rfl rfl rfl (op_len8 (n / 16777216) rfl Tryd.underlying9 (ev1 rfl) (ev1 rfl) (fun _ => by omega) (fun _ => by omega)) ?_
        refine walk_r rfl rfl rfl (op_conv' ty5 kn3 rfl (ev1 rfl) (fun _ => IntWalk.i64_in _ (by have := len8_lt (n / 16777216); omega))) ?_
        refine walk_r rfl rfl rfl (op_add' rfl (ev1 rfl) (ev1 rfl) (fun _ => IntWalk.i64_in _ (by have := len8_lt (n / 16777216); omega))) ?_
        refine walk_r rfl rfl rfl (op_move (.inr rfl) (ev1 rfl)) ?_
        refine walk_nil ?_
        refine dwp_ret ?_
        refine kend0 (rs1 rfl (rv_t rfl)) rfl ?_
        exact congrArg (fun z => D.val (.int .i64 z)) (by have := len64_fin (n := n) (s := 24) (d := 16777216) (by decide) (by omega) (by omega); omega)
      · try simp only [decide_eq_true_eq, decide_eq_false_iff_not, beq_iff_eq, bne_iff_ne, beq_eq_false_iff_ne, bne_eq_false_iff_eq, Bool.not_eq_true', Bool.not_eq_false', Bool.and_eq_true, Bool.or_eq_true, Bool.or_eq_false_iff, ne_eq, Decidable.not_not, Int.not_lt, Int.not_le] at c6
        refine dwp_skip ?_
        refine dwp_seq ?_
        refine dwp_region ?_
        refine walk_r rfl rfl rfl (op_move (.inl rfl) (ev1 rfl)) ?_
        refine walk_r rfl rfl rfl (op_move (.inl rfl) (ev1 rfl)) ?_
        refine walk_r rfl rfl rfl (op_conv' ty25 kn5 rfl (ev1 rfl) (fun _ => IntWalk.u8_in _ (by omega))) ?_
        refine walk_r rfl rfl rfl (op_len8 (n / 65536) rfl Tryd.underlying9 (ev1 rfl) (ev1 rfl) (fun _ => by omega) (fun _ => by omega)) ?_
        refine walk_r rfl rfl rfl (op_conv' ty5 kn3 rfl (ev1 rfl) (fun _ => IntWalk.i64_in _ (by have := len8_lt (n / 65536); omega))) ?_
        refine walk_r rfl rfl rfl (op_add' rfl (ev1 rfl) (ev1 rfl) (fun _ => IntWalk.i64_in _ (by have := len8_lt (n / 65536); omega))) ?_
        refine walk_r rfl rfl rfl (op_move (.inr rfl) (ev1 rfl)) ?_
        refine walk_nil ?_
        refine dwp_ret ?_
        refine kend0 (rs1 rfl (rv_t rfl)) rfl ?_
        exact congrArg (fun z => D.val (.int .i64 z)) (by have := len64_fin (n := n) (s := 16) (d := 65536) (by decide) (by omega) (by omega); omega)
    · try simp only [decide_eq_true_eq, decide_eq_false_iff_not, beq_iff_eq, bne_iff_ne, beq_eq_false_iff_ne, bne_eq_false_iff_eq, Bool.not_eq_true', Bool.not_eq_false', Bool.and_eq_true, Bool.or_eq_true, Bool.or_eq_false_iff, ne_eq, Decidable.not_not, Int.not_lt, Int.not_le] at c5
      refine dwp_skip ?_
      refine dwp_seq ?_
      refine dwp_seq ?_
      refine dwp_region ?_
      refine walk_r rfl rfl rfl (op_move (.inl rfl) (ev1 rfl)) ?_
      refine walk_r rfl rfl rfl (op_geq rfl (ev1 rfl) (ev1 rfl)) ?_
      refine walk_nil ?_
      refine dwp_cond rfl (fun c7 => ?_) (fun c7 => ?_)
      · try simp only [decide_eq_true_eq, decide_eq_false_iff_not, beq_iff_eq, bne_iff_ne, beq_eq_false_iff_ne, bne_eq_false_iff_eq, Bool.not_eq_true', Bool.not_eq_false', Bool.and_eq_true, Bool.or_eq_true, Bool.or_eq_false_iff, ne_eq, Decidable.not_not, Int.not_lt, Int.not_le] at c7
        refine dwp_seq ?_
        refine dwp_region ?_
        refine walk_r rfl rfl rfl (op_move (.inl rfl) (ev1 rfl)) ?_
        refine walk_r rfl rfl rfl (op_shr (8) rfl (ev1 rfl) (ev1 rfl) (fun hp => by first | exact ⟨by omega, by decide⟩ | (simp [IntKind.bits]; omega))) ?_
        refine walk_r rfl rfl rfl (op_move (.inr rfl) (ev1 rfl)) ?_
        refine walk_nil ?_
        refine dwp_region ?_
        refine walk_r rfl rfl rfl (op_move (.inl rfl) (ev1 rfl)) ?_
        refine walk_r rfl rfl rfl (op_add' rfl (ev1 rfl) (ev1 rfl) (fun _ => IntWalk.i64_in _ (by omega))) ?_
        refine walk_r rfl rfl rfl (op_move (.inr rfl) (ev1 rfl)) ?_
        refine walk_nil ?_
        refine dwp_seq ?_
        refine dwp_region ?_
        refine walk_r rfl rfl rfl (op_move (.inl rfl) (ev1 rfl)) ?_
        refine walk_r rfl rfl rfl (op_move (.inl rfl) (ev1 rfl)) ?_
        refine walk_r rfl rfl rfl (op_conv' ty25 kn5 rfl (ev1 rfl) (fun _ => IntWalk.u8_in _ (by omega))) ?_
        refine walk_r rfl rfl rfl (op_len8 (n / 256) rfl Tryd.underlying9 (ev1 rfl) (ev1 rfl) (fun _ => by omega) (fun _ => by omega)) ?_
        refine walk_r rfl rfl rfl (op_conv' ty5 kn3 rfl (ev1 rfl) (fun _ => IntWalk.i64_in _ (by have := len8_lt (n / 256); omega))) ?_
        refine walk_r rfl rfl rfl (op_add' rfl (ev1 rfl) (ev1 rfl) (fun _ => IntWalk.i64_in _ (by have := len8_lt (n / 256); omega))) ?_
        refine walk_r rfl rfl rfl (op_move (.inr rfl) (ev1 rfl)) ?_
        refine walk_nil ?_
        refine dwp_ret ?_
        refine kend0 (rs1 rfl (rv_t rfl)) rfl ?_
        exact congrArg (fun z => D.val (.int .i64 z)) (by have := len64_fin (n := n) (s := 8) (d := 256) (by decide) (by omega) (by omega); omega)
      · try simp only [decide_eq_true_eq, decide_eq_false_iff_not, beq_iff_eq, bne_iff_ne, beq_eq_false_iff_ne, bne_eq_false_iff_eq, Bool.not_eq_true', Bool.not_eq_false', Bool.and_eq_true, Bool.or_eq_true, Bool.or_eq_false_iff, ne_eq, Decidable.not_not, Int.not_lt, Int.not_le] at c7
        refine dwp_skip ?_
        refine dwp_seq ?_
        refine dwp_region ?_
        refine walk_r rfl rfl rfl (op_move (.inl rfl) (ev1 rfl)) ?_
        refine walk_r rfl rfl rfl (op_move (.inl rfl) (ev1 rfl)) ?_
        refine walk_r rfl rfl rfl (op_conv' ty25 kn5 rfl (ev1 rfl) (fun _ => IntWalk.u8_in _ (by omega))) ?_
        refine walk_r rfl rfl rfl (op_len8 (n / 1) rfl Tryd.underlying9 (ev1 rfl) (ev1 rfl) (fun _ => by omega) (fun _ => by omega)) ?_
        refine walk_r rfl rfl rfl (op_conv' ty5 kn3 rfl (ev1 rfl) (fun _ => IntWalk.i64_in _ (by have := len8_lt (n / 1); omega))) ?_
        refine walk_r rfl rfl rfl (op_add' rfl (ev1 rfl) (ev1 rfl) (fun _ => IntWalk.i64_in _ (by have := len8_lt (n / 1); omega))) ?_
        refine walk_r rfl rfl rfl (op_move (.inr rfl) (ev1 rfl)) ?_
        refine walk_nil ?_
        refine dwp_ret ?_
        refine kend0 (rs1 rfl (rv_t rfl)) rfl ?_
        exact congrArg (fun z => D.val (.int .i64 z)) (by have := len64_0 (n := n) (by omega); omega)
set_option maxRecDepth 4000 in
set_option maxHeartbeats 1000000 in
theorem l10_d (z : Int) (b : Nat) (hz : z = (b : Int)) (hb : b ≤ 64) : DFun Tryd.prog 71 [.val (.int .i64 z)] [] (.val (.int .i64 ((b * 78913 / 262144 : Nat) : Int))) [] := by
  refine dcalls_go (N := 6) 0 (by kernel_rfl) Tryd.func71 rfl rfl rfl (by simp only [fr0, Nat.zero_add, Nat.reduceAdd]; exact rfl) rfl fun s0 hs0 => ?_
  refine dwp_seq ?_
  refine dwp_region ?_
  refine walk_r rfl rfl rfl (op_move (.inr rfl) (ev1 rfl)) ?_
  refine walk_nil ?_
  refine dwp_seq ?_
  refine dwp_region ?_
  refine walk_r rfl rfl rfl (op_move (.inl rfl) (ev1 rfl)) ?_
  refine walk_r rfl rfl rfl (op_mul' rfl (ev1 rfl) (ev1 rfl) (fun _ => IntWalk.i64_in _ (by omega))) ?_
  refine walk_r rfl rfl rfl (op_shr (18) rfl (ev1 rfl) (ev1 rfl) (fun hp => by first | exact ⟨by omega, by decide⟩ | (simp [IntKind.bits]; omega))) ?_
  refine walk_r rfl rfl rfl (op_move (.inr rfl) (ev1 rfl)) ?_
  refine walk_nil ?_
  refine dwp_ret ?_
  refine kend0 (rs1 rfl (rv_t rfl)) rfl ?_
  exact congrArg (fun z => D.val (.int .i64 z)) (by omega)
set_option maxRecDepth 4000 in
set_option maxHeartbeats 1000000 in
theorem b2_d (b : Bool) : DFun Tryd.prog 73 [.val (.bool b)] [] (.val (.int .i64 (if b = true then 1 else 0))) [] := by
  refine dcalls_go (N := 4) 0 (by kernel_rfl) Tryd.func73 rfl rfl rfl (by simp only [fr0, Nat.zero_add, Nat.reduceAdd]; exact rfl) rfl fun s0 hs0 => ?_
  refine dwp_seq ?_
  refine dwp_region ?_
  refine walk_r rfl rfl rfl (op_move (.inr rfl) (ev1 rfl)) ?_
  refine walk_nil ?_
  refine dwp_seq ?_
  refine dwp_seq ?_
  refine dwp_region ?_
  refine walk_r rfl rfl rfl (op_move (.inl rfl) (ev1 rfl)) ?_
  refine walk_nil ?_
  refine dwp_cond rfl (fun c1 => ?_) (fun c1 => ?_)
  · try simp only [decide_eq_true_eq, decide_eq_false_iff_not, beq_iff_eq, bne_iff_ne, beq_eq_false_iff_ne, bne_eq_false_iff_eq, Bool.not_eq_true', Bool.not_eq_false', Bool.and_eq_true, Bool.or_eq_true, Bool.or_eq_false_iff, ne_eq, Decidable.not_not, Int.not_lt, Int.not_le] at c1
    refine dwp_seq ?_
    refine dwp_region ?_
    refine walk_r rfl rfl rfl (op_move (.inr rfl) (ev1 rfl)) ?_
    refine walk_nil ?_
    refine dwp_ret ?_
    refine kend0 (rs1 rfl (rv_t rfl)) rfl ?_
    simp_all
  · try simp only [decide_eq_true_eq, decide_eq_false_iff_not, beq_iff_eq, bne_iff_ne, beq_eq_false_iff_ne, bne_eq_false_iff_eq, Bool.not_eq_true', Bool.not_eq_false', Bool.and_eq_true, Bool.or_eq_true, Bool.or_eq_false_iff, ne_eq, Decidable.not_not, Int.not_lt, Int.not_le] at c1
    refine dwp_skip ?_
    refine dwp_seq ?_
    refine dwp_region ?_
    refine walk_r rfl rfl rfl (op_move (.inr rfl) (ev1 rfl)) ?_
    refine walk_nil ?_
    refine dwp_ret ?_
    refine kend0 (rs1 rfl (rv_t rfl)) rfl ?_
    simp_all
theorem blen_64 {n : Nat} (h : n < 18446744073709551616) : blen n ≤ 64 := by
  rcases Nat.lt_or_ge 64 (blen n) with h1 | h1
  · have h0 : n ≠ 0 := fun e => by subst e; simp [blen] at h1
    have := blen_le h0
    have := Nat.pow_le_pow_right (n := 2) (by decide) (show 64 ≤ blen n - 1 by omega)
    omega
  · exact h1
set_option maxRecDepth 4000 in
set_option maxHeartbeats 1000000 in
theorem ndig_d (z : Int) (n : Nat) (hz : z = (n : Int)) (h1 : 1 ≤ n) (hn : n < 18446744073709551616) : DFun Tryd.prog 65 [.val (.int .u64 z)] [.glob 0 pow10L] (.val (.int .i64 (((dg n).length : Nat) : Int))) [.glob 0 pow10L] := by
  refine dcalls_go (N := 15) 1 (by kernel_rfl) Tryd.func65 rfl rfl rfl (by simp only [fr0, Nat.zero_add, Nat.reduceAdd]; exact rfl) rfl fun s0 hs0 => ?_
  refine dwp_seq ?_
  refine dwp_region ?_
  refine walk_r rfl rfl rfl (op_move (.inr rfl) (ev1 rfl)) ?_
  refine walk_nil ?_
  refine dwp_seq ?_
  have hb := blen_64 hn
  have hr := ndig_rng (n := n) (by omega)
  refine dwp_region ?_
  refine walk_r rfl rfl rfl (op_move (.inl rfl) (ev1 rfl)) ?_
  refine walk_r rfl rfl rfl (dop_call [] [] [] rfl (ev1 rfl) (ec (ev1 rfl) en) rfl rfl (len64_d _ n hz hn) rfl rfl rfl rfl rfl rfl) ?_
  refine walk_r rfl rfl rfl (dop_call [] [] [] rfl (ev1 rfl) (ec (ev1 rfl) en) rfl rfl (l10_d _ (blen n) rfl hb) rfl rfl rfl rfl rfl rfl) ?_
  refine walk_r rfl rfl rfl (op_move (.inr rfl) (ev1 rfl)) ?_
  refine walk_nil ?_
  refine dwp_seq ?_
  change ndig n < 20 at hr
  have e10 : ((blen n * 78913 / 262144 : Nat) : Int) = ((ndig n : Nat) : Int) := rfl
  rw [e10]
  refine dwp_region ?_
  refine walk_r rfl rfl rfl (op_move (.inl rfl) (ev1 rfl)) ?_
  refine walk_r rfl rfl rfl (op_move (.inl rfl) (ev1 rfl)) ?_
  refine walk_r rfl rfl rfl (op_move (.inl rfl) (ev1 rfl)) ?_
  refine walk_r rfl rfl rfl (op_ixg (i := 0) rfl ar113 (ev1 rfl) (ev1 rfl) rfl (fun _ => by omega)) ?_
  refine walk_r rfl rfl rfl ((op_ldod rfl tb25 (ev1 rfl) (pow_at hr) : DOp _ _ _ _ _ _ (.val (.int .u64 ((10 ^ ndig n : Nat) : Int))) _)) ?_
  refine walk_r rfl rfl rfl (op_geq rfl (ev1 rfl) (ev1 rfl)) ?_
  refine walk_r rfl rfl rfl (dop_call [] [] [] rfl (ev1 rfl) (ec (ev1 rfl) en) rfl rfl (b2_d _) rfl rfl rfl rfl rfl rfl) ?_
  refine walk_r rfl rfl rfl (op_add' rfl (ev1 rfl) (ev1 rfl) (fun _ => IntWalk.i64_in _ (by split <;> omega))) ?_
  refine walk_r rfl rfl rfl (op_move (.inr rfl) (ev1 rfl)) ?_
  refine walk_nil ?_
  refine dwp_ret ?_
  refine kend [0] (rs1 rfl (rv_t rfl)) rfl rfl ?_ ⟨rfl, trivial⟩
  exact congrArg (fun z => D.val (.int .i64 z)) (by
      have e := ndig_dg h1 (show n < 2 ^ 64 by omega)
      rw [e]
      subst hz
      by_cases hd : 10 ^ ndig n ≤ n
      · have hd' : ((10 ^ ndig n : Nat) : Int) ≤ (n : Int) := by omega
        rw [if_pos hd, if_pos (by simpa using hd')]; rfl
      · have hd' : ¬ ((10 ^ ndig n : Nat) : Int) ≤ (n : Int) := by omega
        rw [if_neg hd, if_neg (by simpa using hd')]; rfl)
end Go.Proofs.YtaekkjhpdendoaaDoor

namespace Go.Proofs.YtaekkjhpdendoaaDoor
set_option linter.unusedVariables false
set_option linter.unusedSimpArgs false
open Go.RowKit
theorem ar103 : arE Tryd.prog 103 = some (24, 1) := by kernel_rfl
theorem ty2 : (tyB Tryd.prog 2).isSome = true := by kernel_rfl
theorem zr103 : zrC Tryd.prog 103 = some (List.replicate 24 (.int .u8 0)) := by kernel_rfl
theorem zr5 : zrC Tryd.prog 5 = some [.int .u8 0] := by kernel_rfl
end Go.Proofs.YtaekkjhpdendoaaDoor

namespace Go.Proofs.YtaekkjhpdendoaaDoor
set_option linter.unusedVariables false
set_option linter.unusedSimpArgs false
open Go.RowKit
def digL : List Nat := [48, 49, 50, 51, 52, 53, 54, 55, 56, 57, 97, 98, 99, 100, 101, 102, 103, 104, 105, 106, 107, 108, 109, 110, 111, 112, 113, 114, 115, 116, 117, 118, 119, 120, 121, 122]
def digB : ByteArray := ⟨#[48, 49, 50, 51, 52, 53, 54, 55, 56, 57, 97, 98, 99, 100, 101, 102, 103, 104, 105, 106, 107, 108, 109, 110, 111, 112, 113, 114, 115, 116, 117, 118, 119, 120, 121, 122]⟩
theorem dig_str : strN digL = digB := by decide +kernel
section
variable {P : Program} {pc : Bool} {o : Oper} {F : Fr} {M : List Blk}
theorem op_dig1 {T : TypeId} {x : Operand} {lo hi : Option Operand} {l h : Int} (n : Nat) (ho : o.op = .slice T x lo hi none) (hT : P.underlying T = some .string) (hx : Ev pc F x (.val (.string digB))) (hlo : Bd pc F lo 0 l) (hhi : Bd pc F hi digL.length h)
    (hl : pc = true → l = (n : Int)) (hh : pc = true → h = ((n + 1 : Nat) : Int)) (hb : pc = true → n < 10) : DOp P pc o F M [] (.val (.string (strN (dg n)))) [] := fun hp => by
  have h1 := hb hp
  have hd : digL.length = 36 := rfl
  have := op_slnn (M := M) (p := digL) ho hT (by rw [dig_str]; exact hx) hlo hhi hl hh (fun _ => ⟨by omega, by omega⟩)
  have key : ∀ n, n < 10 → (digL.drop n).take (n + 1 - n) = [48 + n] := by decide
  rw [key n h1] at this
  rw [dg_lo h1]
  exact this hp
theorem op_dig2 {T : TypeId} {x : Operand} {lo hi : Option Operand} {l h : Int} (n : Nat) (ho : o.op = .slice T x lo hi none) (hT : P.underlying T = some .string) (hx : Ev pc F x (.val (.string smallsB))) (hlo : Bd pc F lo 0 l) (hhi : Bd pc F hi smallsL.length h)
    (hl : pc = true → l = ((n * 2 : Nat) : Int)) (hh : pc = true → h = ((n * 2 + 2 : Nat) : Int)) (hb : pc = true → 10 ≤ n ∧ n < 100) : DOp P pc o F M [] (.val (.string (strN (dg n)))) [] := fun hp => by
  obtain ⟨h1, h2⟩ := hb hp
  have := op_slnn (M := M) (p := smallsL) ho hT (by rw [smalls_str]; exact hx) hlo hhi hl hh (fun _ => ⟨by omega, by rw [smalls_len]; omega⟩)
  have key : ∀ n, n < 100 → (smallsL.drop (n * 2)).take (n * 2 + 2 - n * 2) = [48 + n / 10, 48 + n % 10] := by decide +kernel
  rw [key n h2] at this
  rw [dg_hi (by omega), dg_lo (by omega)]
  exact this hp
end
def z24 : List Nat := List.replicate 24 0
theorem fin_own {l : List Nat} {o n : Nat} (ho : o + (dg n).length ≤ l.length) : (((memD l o (dg n).length n (dg n).length).flatMap b8).drop o).take (dg n).length = (dg n).flatMap b8 := by
  rw [part_b8, memD_all, ← dg_dgN]
  have hl : (l.take o).length = o := by rw [List.length_take]; omega
  congr 1
  rw [List.drop_append, hl, Nat.sub_self, List.drop_zero, List.drop_of_length_le (by omega), List.nil_append, List.take_left]
theorem fin_neg {n : Nat} (ho : 1 + (dg n).length ≤ 24) : ((((memD z24 1 (dg n).length n (dg n).length).set 0 45).flatMap b8).drop 0).take (1 + (dg n).length) = (45 :: dg n).flatMap b8 := by
  rw [part_b8, memD_all, ← dg_dgN]
  congr 1
  show (((0 :: ((dg n) ++ z24.drop (1 + (dg n).length))).set 0 45).drop 0).take (1 + (dg n).length) = _
  rw [List.set_cons_zero, List.drop_zero, Nat.add_comm, List.take_succ_cons, List.take_left]
theorem dg_24 {n : Nat} (h : n < 18446744073709551616) : (dg n).length ≤ 20 := dg_20 h
theorem wrap_neg {n : Nat} (h1 : 1 ≤ n) (h2 : n ≤ 9223372036854775808) : IntKind.u64.wrap (-(n : Int)) = 18446744073709551616 - (n : Int) := by rw [IntKind.wrap_u64]; omega
theorem wrap_neg2 {n : Nat} (h1 : 1 ≤ n) (h2 : n ≤ 9223372036854775808) : IntKind.u64.wrap (0 - (18446744073709551616 - (n : Int))) = (n : Int) := by rw [IntKind.wrap_u64]; omega
set_option maxRecDepth 4000 in
set_option maxHeartbeats 1000000 in
theorem small_d (z : Int) (n : Nat) (hz : z = (n : Int)) (h : n < 100) : DFun Tryd.prog 64 [.val (.int .i64 z)] [] (.val (.string (strN (dg n)))) [] := by
  refine dcalls_go (N := 15) 0 (by kernel_rfl) Tryd.func64 rfl rfl rfl (by simp only [fr0, Nat.zero_add, Nat.reduceAdd]; exact rfl) rfl fun s0 hs0 => ?_
  refine dwp_seq ?_
  refine dwp_region ?_
  refine walk_r rfl rfl rfl (op_move (.inr rfl) (ev1 rfl)) ?_
  refine walk_nil ?_
  refine dwp_seq ?_
  refine dwp_seq ?_
  refine dwp_region ?_
  refine walk_r rfl rfl rfl (op_move (.inl rfl) (ev1 rfl)) ?_
  refine walk_r rfl rfl rfl (op_lss rfl (ev1 rfl) (ev1 rfl)) ?_
  refine walk_nil ?_
  refine dwp_cond rfl (fun c1 => ?_) (fun c1 => ?_)
  · try simp only [decide_eq_true_eq, decide_eq_false_iff_not, beq_iff_eq, bne_iff_ne, beq_eq_false_iff_ne, bne_eq_false_iff_eq, Bool.not_eq_true', Bool.not_eq_false', Bool.and_eq_true, Bool.or_eq_true, Bool.or_eq_false_iff, ne_eq, Decidable.not_not, Int.not_lt, Int.not_le] at c1
    refine dwp_seq ?_
    refine dwp_region ?_
    refine walk_r rfl rfl rfl (op_move (.inl rfl) (ev1 rfl)) ?_
    refine walk_r rfl rfl rfl (op_move (.inl rfl) (ev1 rfl)) ?_
    refine walk_r rfl rfl rfl (op_add' rfl (ev1 rfl) (ev1 rfl) (fun _ => IntWalk.i64_in _ (by omega))) ?_
    refine walk_r rfl rfl rfl (op_dig1 n rfl Tryd.underlying9 (ev1 rfl) (bd_some (ev1 rfl)) (bd_some (ev1 rfl)) (fun _ => by omega) (fun _ => by omega) (fun _ => by omega)) ?_
    refine walk_r rfl rfl rfl (op_move (.inr rfl) (ev1 rfl)) ?_
    refine walk_nil ?_
    refine dwp_ret ?_
    refine kend0 (rs1 rfl (rv_t rfl)) rfl ?_
    rfl
  · try simp only [decide_eq_true_eq, decide_eq_false_iff_not, beq_iff_eq, bne_iff_ne, beq_eq_false_iff_ne, bne_eq_false_iff_eq, Bool.not_eq_true', Bool.not_eq_false', Bool.and_eq_true, Bool.or_eq_true, Bool.or_eq_false_iff, ne_eq, Decidable.not_not, Int.not_lt, Int.not_le] at c1
    refine dwp_skip ?_
    refine dwp_seq ?_
    refine dwp_region ?_
    refine walk_r rfl rfl rfl (op_move (.inl rfl) (ev1 rfl)) ?_
    refine walk_r rfl rfl rfl (op_mul' rfl (ev1 rfl) (ev1 rfl) (fun _ => IntWalk.i64_in _ (by omega))) ?_
    refine walk_r rfl rfl rfl (op_move (.inl rfl) (ev1 rfl)) ?_
    refine walk_r rfl rfl rfl (op_mul' rfl (ev1 rfl) (ev1 rfl) (fun _ => IntWalk.i64_in _ (by omega))) ?_
    refine walk_r rfl rfl rfl (op_add' rfl (ev1 rfl) (ev1 rfl) (fun _ => IntWalk.i64_in _ (by omega))) ?_
    refine walk_r rfl rfl rfl (op_dig2 n rfl Tryd.underlying9 (ev1 rfl) (bd_some (ev1 rfl)) (bd_some (ev1 rfl)) (fun _ => by omega) (fun _ => by omega) (fun _ => by omega)) ?_
    refine walk_r rfl rfl rfl (op_move (.inr rfl) (ev1 rfl)) ?_
    refine walk_nil ?_
    refine dwp_ret ?_
    refine kend0 (rs1 rfl (rv_t rfl)) rfl ?_
    rfl
set_option maxRecDepth 4000 in
set_option maxHeartbeats 1000000 in
theorem fmtU_d (z : Int) (n : Nat) (hz : z = (n : Int)) (hn : n < 18446744073709551616) : DFun Tryd.prog 60 [.val (.int .u64 z), .val (.int .i64 10)] [.glob 0 pow10L] (.val (.string (strN (dg n)))) [.glob 0 pow10L] := by
  refine dcalls_go (N := 32) 1 (by kernel_rfl) Tryd.func60 rfl rfl rfl (by simp only [fr0, Nat.zero_add, Nat.reduceAdd]; exact rfl) rfl fun s0 hs0 => ?_
  refine dwp_seq ?_
  refine dwp_region ?_
  refine walk_r rfl rfl rfl (op_move (.inr rfl) (ev1 rfl)) ?_
  refine walk_nil ?_
  refine dwp_seq ?_
  refine dwp_seq ?_
  refine dwp_region ?_
  refine walk_r rfl rfl rfl (op_move (.inl rfl) (ev1 rfl)) ?_
  refine walk_r rfl rfl rfl (op_eql rfl (ev1 rfl) (ev1 rfl)) ?_
  refine walk_nil ?_
  refine dwp_if_t rfl (rfl) ?_
  refine dwp_seq ?_
  refine dwp_seq ?_
  refine dwp_region ?_
  refine walk_r rfl rfl rfl (op_move (.inl rfl) (ev1 rfl)) ?_
  refine walk_r rfl rfl rfl (op_lss rfl (ev1 rfl) (ev1 rfl)) ?_
  refine walk_nil ?_
  refine dwp_cond rfl (fun c2 => ?_) (fun c2 => ?_)
  · try simp only [decide_eq_true_eq, decide_eq_false_iff_not, beq_iff_eq, bne_iff_ne, beq_eq_false_iff_ne, bne_eq_false_iff_eq, Bool.not_eq_true', Bool.not_eq_false', Bool.and_eq_true, Bool.or_eq_true, Bool.or_eq_false_iff, ne_eq, Decidable.not_not, Int.not_lt, Int.not_le] at c2
    refine dwp_seq ?_
    refine dwp_region ?_
    refine walk_r rfl rfl rfl (op_move (.inl rfl) (ev1 rfl)) ?_
    refine walk_r rfl rfl rfl (op_conv' ty25 kn3 rfl (ev1 rfl) (fun _ => IntWalk.i64_in _ (by omega))) ?_
    refine walk_r rfl rfl rfl (dop_call [] [] [] rfl (ev1 rfl) (ec (ev1 rfl) en) rfl rfl (small_d _ n hz (by omega)) rfl rfl rfl rfl rfl rfl) ?_
    refine walk_r rfl rfl rfl (op_move (.inr rfl) (ev1 rfl)) ?_
    refine walk_nil ?_
    refine dwp_ret ?_
    refine kend [0] (rs1 rfl (rv_t rfl)) rfl rfl ?_ ⟨rfl, trivial⟩
    rfl
  · try simp only [decide_eq_true_eq, decide_eq_false_iff_not, beq_iff_eq, bne_iff_ne, beq_eq_false_iff_ne, bne_eq_false_iff_eq, Bool.not_eq_true', Bool.not_eq_false', Bool.and_eq_true, Bool.or_eq_true, Bool.or_eq_false_iff, ne_eq, Decidable.not_not, Int.not_lt, Int.not_le] at c2
    refine dwp_skip ?_
    refine dwp_seq ?_
    refine dwp_holes 1 (by simp only [holes, List.cons_append, List.nil_append]; exact rfl) ?_
    refine dwp_region ?_
    refine walk_w rfl rfl rfl (op_alloc 1 rfl zr103 rfl) (by simp only [upd, List.set_cons_zero, List.set_cons_succ]; exact rfl) ?_
    refine walk_nil ?_
    refine dwp_seq ?_
    have hd := dg_24 hn
    refine dwp_region ?_
    refine walk_r rfl rfl rfl (op_move (.inl rfl) (ev1 rfl)) ?_
    refine walk_w rfl rfl rfl (dop_call [0] [] [] rfl (ev1 rfl) (ec (ev1 rfl) en) rfl rfl (ndig_d _ n hz (by omega) hn) rfl rfl rfl rfl rfl rfl) (by simp only [upd, List.set_cons_zero, List.set_cons_succ]; exact rfl) ?_
    refine walk_r rfl rfl rfl (op_move (.inr rfl) (ev1 rfl)) ?_
    refine walk_nil ?_
    refine dwp_seq ?_
    refine dwp_slar 5 (N := 24) rfl rfl (rfl) (by decide) rfl (by simp only [List.cons_append, List.nil_append, List.set_cons_zero, List.set_cons_succ]; exact rfl) ?_
    refine dwp_region ?_
    refine walk_r rfl rfl rfl (op_move (.inl rfl) (ev1 rfl)) ?_
    refine walk_r rfl rfl rfl (op_slan (p := 0) (q := (dg n).length) rfl ar103 (ev1 rfl) rfl bd_none (bd_some (ev1 rfl)) (fun _ => by omega) (fun _ => by omega) (fun _ => by omega)) ?_
    refine walk_r rfl rfl rfl (op_move (.inl rfl) (ev1 rfl)) ?_
    refine walk_w rfl rfl rfl (dop_call [2] [] [] rfl (ev1 rfl) (ec (ev1 rfl) (ec (ev1 rfl) en)) rfl rfl (fmtB_d z24 _ n 0 (dg n).length hz (dg_lt n) hn (by show 0 + _ ≤ 24; omega) rfl) rfl rfl rfl rfl rfl rfl) (by simp only [upd, List.set_cons_zero, List.set_cons_succ]; exact rfl) ?_
    refine walk_nil ?_
    refine dwp_seq ?_
    refine dwp_region ?_
    refine walk_r rfl rfl rfl (op_move (.inl rfl) (ev1 rfl)) ?_
    refine walk_r rfl rfl rfl (op_slan (p := 0) (q := (dg n).length) rfl ar103 (ev1 rfl) rfl bd_none (bd_some (ev1 rfl)) (fun _ => by omega) (fun _ => by omega) (fun _ => by omega)) ?_
    refine walk_r rfl rfl rfl (op_cbo (l := dg n) rfl Tryd.underlying100 Tryd.underlying5 Tryd.underlying9 (ev1 rfl) rfl (fun _ => fin_own (by show 0 + _ ≤ 24; omega)) (fun _ => rfl)) ?_
    refine walk_r rfl rfl rfl (op_move (.inr rfl) (ev1 rfl)) ?_
    refine walk_nil ?_
    refine dwp_ret ?_
    refine kend [0] (rs1 rfl (rv_t rfl)) rfl rfl ?_ ⟨rfl, trivial⟩
    rfl
set_option maxRecDepth 4000 in
set_option maxHeartbeats 1000000 in
theorem fmtI_pos (z : Int) (n : Nat) (hz : z = (n : Int)) (hn : n < 9223372036854775808) : DFun Tryd.prog 68 [.val (.int .i64 z), .val (.int .i64 10)] [.glob 0 pow10L] (.val (.string (strN (dg n)))) [.glob 0 pow10L] := by
  refine dcalls_go (N := 54) 1 (by kernel_rfl) Tryd.func68 rfl rfl rfl (by simp only [fr0, Nat.zero_add, Nat.reduceAdd]; exact rfl) rfl fun s0 hs0 => ?_
  refine dwp_seq ?_
  refine dwp_region ?_
  refine walk_r rfl rfl rfl (op_move (.inr rfl) (ev1 rfl)) ?_
  refine walk_nil ?_
  refine dwp_seq ?_
  refine dwp_seq ?_
  refine dwp_region ?_
  refine walk_r rfl rfl rfl (op_move (.inl rfl) (ev1 rfl)) ?_
  refine walk_r rfl rfl rfl (op_eql rfl (ev1 rfl) (ev1 rfl)) ?_
  refine walk_nil ?_
  refine dwp_if_t rfl (rfl) ?_
  refine dwp_seq ?_
  refine dwp_seq ?_
  refine dwp_region ?_
  refine walk_r rfl rfl rfl (op_move (.inl rfl) (ev1 rfl)) ?_
  refine walk_r rfl rfl rfl (op_leq rfl (ev1 rfl) (ev1 rfl)) ?_
  refine walk_r rfl rfl rfl (op_move (.inl rfl) (ev1 rfl)) ?_
  refine walk_gr (gd_t rfl rfl rfl) rfl rfl rfl (op_move (.inl rfl) (ev1 rfl)) ?_
  refine walk_gr (gd_t rfl rfl rfl) rfl rfl rfl (op_lss rfl (ev2 rfl) (ev1 rfl)) ?_
  refine walk_r rfl rfl rfl (op_and rfl (ev1 rfl) (ev3 rfl id)) ?_
  refine walk_nil ?_
  refine dwp_cond rfl (fun c17 => ?_) (fun c17 => ?_)
  · try simp only [decide_eq_true_eq, decide_eq_false_iff_not, beq_iff_eq, bne_iff_ne, beq_eq_false_iff_ne, bne_eq_false_iff_eq, Bool.not_eq_true', Bool.not_eq_false', Bool.and_eq_true, Bool.or_eq_true, Bool.or_eq_false_iff, ne_eq, Decidable.not_not, Int.not_lt, Int.not_le] at c17
    refine dwp_seq ?_
    refine dwp_region ?_
    refine walk_r rfl rfl rfl (op_move (.inl rfl) (ev1 rfl)) ?_
    refine walk_r rfl rfl rfl (dop_call [] [] [] rfl (ev1 rfl) (ec (ev1 rfl) en) rfl rfl (small_d _ n hz (by omega)) rfl rfl rfl rfl rfl rfl) ?_
    refine walk_r rfl rfl rfl (op_move (.inr rfl) (ev1 rfl)) ?_
    refine walk_nil ?_
    refine dwp_ret ?_
    refine kend [0] (rs1 rfl (rv_t rfl)) rfl rfl ?_ ⟨rfl, trivial⟩
    rfl
  · try simp only [decide_eq_true_eq, decide_eq_false_iff_not, beq_iff_eq, bne_iff_ne, beq_eq_false_iff_ne, bne_eq_false_iff_eq, Bool.not_eq_true', Bool.not_eq_false', Bool.and_eq_true, Bool.or_eq_true, Bool.or_eq_false_iff, ne_eq, Decidable.not_not, Int.not_lt, Int.not_le] at c17
    have h100 : 100 ≤ n := by
      simp at c17
      have := c17 (by omega)
      omega
    refine dwp_skip ?_
    refine dwp_seq ?_
    refine dwp_holes 1 (by simp only [holes, List.cons_append, List.nil_append]; exact rfl) ?_
    refine dwp_region ?_
    refine walk_w rfl rfl rfl (op_alloc 1 rfl zr103 rfl) (by simp only [upd, List.set_cons_zero, List.set_cons_succ]; exact rfl) ?_
    refine walk_nil ?_
    refine dwp_seq ?_
    refine dwp_region ?_
    refine walk_r rfl rfl rfl (op_move (.inl rfl) (ev1 rfl)) ?_
    refine walk_r rfl rfl rfl (op_conv' ty2 kn25 rfl (ev1 rfl) (fun _ => IntWalk.u64_in _ (by omega))) ?_
    refine walk_r rfl rfl rfl (op_move (.inr rfl) (ev1 rfl)) ?_
    refine walk_nil ?_
    refine dwp_seq ?_
    refine dwp_seq ?_
    refine dwp_region ?_
    refine walk_r rfl rfl rfl (op_move (.inl rfl) (ev1 rfl)) ?_
    refine walk_r rfl rfl rfl (op_lss rfl (ev1 rfl) (ev1 rfl)) ?_
    refine walk_nil ?_
    refine dwp_if_f rfl (by simp; omega) ?_
    refine dwp_skip ?_
    refine dwp_seq ?_
    have hd := dg_24 (n := n) (by omega)
    refine dwp_region ?_
    refine walk_r rfl rfl rfl (op_move (.inl rfl) (ev1 rfl)) ?_
    refine walk_w rfl rfl rfl (dop_call [0] [] [] rfl (ev1 rfl) (ec (ev1 rfl) en) rfl rfl (ndig_d _ n hz (by omega) (by omega)) rfl rfl rfl rfl rfl rfl) (by simp only [upd, List.set_cons_zero, List.set_cons_succ]; exact rfl) ?_
    refine walk_r rfl rfl rfl (op_move (.inr rfl) (ev1 rfl)) ?_
    refine walk_nil ?_
    refine dwp_seq ?_
    refine dwp_slar 5 (N := 24) rfl rfl (rfl) (by decide) rfl (by simp only [List.cons_append, List.nil_append, List.set_cons_zero, List.set_cons_succ]; exact rfl) ?_
    refine dwp_region ?_
    refine walk_r rfl rfl rfl (op_move (.inl rfl) (ev1 rfl)) ?_
    refine walk_r rfl rfl rfl (op_add' rfl (ev1 rfl) (ev1 rfl) (fun _ => IntWalk.i64_in _ (by omega))) ?_
    refine walk_r rfl rfl rfl (op_slan (p := 1) (q := (dg n).length) rfl ar103 (ev1 rfl) rfl (bd_some (ev1 rfl)) (bd_some (ev1 rfl)) (fun _ => rfl) (fun _ => by omega) (fun _ => by omega)) ?_
    refine walk_r rfl rfl rfl (op_move (.inl rfl) (ev1 rfl)) ?_
    refine walk_w rfl rfl rfl (dop_call [2] [] [] rfl (ev1 rfl) (ec (ev1 rfl) (ec (ev1 rfl) en)) rfl rfl (fmtB_d z24 _ n 1 (dg n).length hz (dg_lt n) (by omega) (by show 1 + _ ≤ 24; omega) rfl) rfl rfl rfl rfl rfl rfl) (by simp only [upd, List.set_cons_zero, List.set_cons_succ]; exact rfl) ?_
    refine walk_nil ?_
    refine dwp_seq ?_
    refine dwp_seq ?_
    refine dwp_region ?_
    refine walk_r rfl rfl rfl (op_move (.inl rfl) (ev1 rfl)) ?_
    refine walk_r rfl rfl rfl (op_lss rfl (ev1 rfl) (ev1 rfl)) ?_
    refine walk_nil ?_
    refine dwp_if_f rfl (by simp; omega) ?_
    refine dwp_skip ?_
    refine dwp_seq ?_
    refine dwp_region ?_
    refine walk_r rfl rfl rfl (op_move (.inl rfl) (ev1 rfl)) ?_
    refine walk_r rfl rfl rfl (op_add' rfl (ev1 rfl) (ev1 rfl) (fun _ => IntWalk.i64_in _ (by omega))) ?_
    refine walk_r rfl rfl rfl (op_slan (p := 1) (q := (dg n).length) rfl ar103 (ev1 rfl) rfl (bd_some (ev1 rfl)) (bd_some (ev1 rfl)) (fun _ => rfl) (fun _ => by omega) (fun _ => by omega)) ?_
    refine walk_r rfl rfl rfl (op_cbo (l := dg n) rfl Tryd.underlying100 Tryd.underlying5 Tryd.underlying9 (ev1 rfl) rfl (fun _ => fin_own (by show 1 + _ ≤ 24; omega)) (fun _ => rfl)) ?_
    refine walk_r rfl rfl rfl (op_move (.inr rfl) (ev1 rfl)) ?_
    refine walk_nil ?_
    refine dwp_ret ?_
    refine kend [0] (rs1 rfl (rv_t rfl)) rfl rfl ?_ ⟨rfl, trivial⟩
    rfl
set_option maxRecDepth 4000 in
set_option maxHeartbeats 1000000 in
theorem fmtI_neg (z : Int) (n : Nat) (hz : z = -(n : Int)) (h1 : 1 ≤ n) (hn : n ≤ 9223372036854775808) : DFun Tryd.prog 68 [.val (.int .i64 z), .val (.int .i64 10)] [.glob 0 pow10L] (.val (.string (strN (45 :: dg n)))) [.glob 0 pow10L] := by
  refine dcalls_go (N := 54) 1 (by kernel_rfl) Tryd.func68 rfl rfl rfl (by simp only [fr0, Nat.zero_add, Nat.reduceAdd]; exact rfl) rfl fun s0 hs0 => ?_
  refine dwp_seq ?_
  refine dwp_region ?_
  refine walk_r rfl rfl rfl (op_move (.inr rfl) (ev1 rfl)) ?_
  refine walk_nil ?_
  refine dwp_seq ?_
  refine dwp_seq ?_
  refine dwp_region ?_
  refine walk_r rfl rfl rfl (op_move (.inl rfl) (ev1 rfl)) ?_
  refine walk_r rfl rfl rfl (op_eql rfl (ev1 rfl) (ev1 rfl)) ?_
  refine walk_nil ?_
  refine dwp_if_t rfl (rfl) ?_
  refine dwp_seq ?_
  refine dwp_seq ?_
  refine dwp_region ?_
  refine walk_r rfl rfl rfl (op_move (.inl rfl) (ev1 rfl)) ?_
  refine walk_r rfl rfl rfl (op_leq rfl (ev1 rfl) (ev1 rfl)) ?_
  refine walk_r rfl rfl rfl (op_move (.inl rfl) (ev1 rfl)) ?_
  refine walk_gr (gd_t rfl rfl rfl) rfl rfl rfl (op_move (.inl rfl) (ev1 rfl)) ?_
  refine walk_gr (gd_t rfl rfl rfl) rfl rfl rfl (op_lss rfl (ev2 rfl) (ev1 rfl)) ?_
  refine walk_r rfl rfl rfl (op_and rfl (ev1 rfl) (ev3 rfl id)) ?_
  refine walk_nil ?_
  refine dwp_if_f rfl (by simp; omega) ?_
  refine dwp_skip ?_
  refine dwp_seq ?_
  refine dwp_holes 1 (by simp only [holes, List.cons_append, List.nil_append]; exact rfl) ?_
  refine dwp_region ?_
  refine walk_w rfl rfl rfl (op_alloc 1 rfl zr103 rfl) (by simp only [upd, List.set_cons_zero, List.set_cons_succ]; exact rfl) ?_
  refine walk_nil ?_
  refine dwp_seq ?_
  refine dwp_region ?_
  refine walk_r rfl rfl rfl (op_move (.inl rfl) (ev1 rfl)) ?_
  refine walk_r rfl rfl rfl ((op_conv ty2 kn25 rfl (ev1 rfl)).cast (d' := .val (.int .u64 (18446744073709551616 - (n : Int)))) (congrArg (fun z => D.val (.int .u64 z)) (by rw [hz]; exact wrap_neg h1 hn))) ?_
  refine walk_r rfl rfl rfl (op_move (.inr rfl) (ev1 rfl)) ?_
  refine walk_nil ?_
  refine dwp_seq ?_
  refine dwp_seq ?_
  refine dwp_region ?_
  refine walk_r rfl rfl rfl (op_move (.inl rfl) (ev1 rfl)) ?_
  refine walk_r rfl rfl rfl (op_lss rfl (ev1 rfl) (ev1 rfl)) ?_
  refine walk_nil ?_
  refine dwp_if_t rfl (by simp; omega) ?_
  refine dwp_region ?_
  refine walk_r rfl rfl rfl (op_move (.inl rfl) (ev1 rfl)) ?_
  refine walk_r rfl rfl rfl ((op_neg rfl (ev1 rfl)).cast (d' := .val (.int .u64 (n : Int))) (congrArg (fun z => D.val (.int .u64 z)) (wrap_neg2 h1 hn))) ?_
  refine walk_r rfl rfl rfl (op_move (.inr rfl) (ev1 rfl)) ?_
  refine walk_nil ?_
  refine dwp_seq ?_
  have hd := dg_24 (n := n) (by omega)
  refine dwp_region ?_
  refine walk_r rfl rfl rfl (op_move (.inl rfl) (ev1 rfl)) ?_
  refine walk_w rfl rfl rfl (dop_call [0] [] [] rfl (ev1 rfl) (ec (ev1 rfl) en) rfl rfl (ndig_d _ n rfl h1 (by omega)) rfl rfl rfl rfl rfl rfl) (by simp only [upd, List.set_cons_zero, List.set_cons_succ]; exact rfl) ?_
  refine walk_r rfl rfl rfl (op_move (.inr rfl) (ev1 rfl)) ?_
  refine walk_nil ?_
  refine dwp_seq ?_
  refine dwp_slar 5 (N := 24) rfl rfl (rfl) (by decide) rfl (by simp only [List.cons_append, List.nil_append, List.set_cons_zero, List.set_cons_succ]; exact rfl) ?_
  refine dwp_region ?_
  refine walk_r rfl rfl rfl (op_move (.inl rfl) (ev1 rfl)) ?_
  refine walk_r rfl rfl rfl (op_add' rfl (ev1 rfl) (ev1 rfl) (fun _ => IntWalk.i64_in _ (by omega))) ?_
  refine walk_r rfl rfl rfl (op_slan (p := 1) (q := (dg n).length) rfl ar103 (ev1 rfl) rfl (bd_some (ev1 rfl)) (bd_some (ev1 rfl)) (fun _ => rfl) (fun _ => by omega) (fun _ => by omega)) ?_
  refine walk_r rfl rfl rfl (op_move (.inl rfl) (ev1 rfl)) ?_
  refine walk_w rfl rfl rfl (dop_call [2] [] [] rfl (ev1 rfl) (ec (ev1 rfl) (ec (ev1 rfl) en)) rfl rfl (fmtB_d z24 _ n 1 (dg n).length rfl (dg_lt n) (by omega) (by show 1 + _ ≤ 24; omega) rfl) rfl rfl rfl rfl rfl rfl) (by simp only [upd, List.set_cons_zero, List.set_cons_succ]; exact rfl) ?_
  refine walk_nil ?_
  refine dwp_seq ?_
  refine dwp_seq ?_
  refine dwp_region ?_
  refine walk_r rfl rfl rfl (op_move (.inl rfl) (ev1 rfl)) ?_
  refine walk_r rfl rfl rfl (op_lss rfl (ev1 rfl) (ev1 rfl)) ?_
  refine walk_nil ?_
  refine dwp_if_t rfl (by simp; omega) ?_
  refine dwp_seq ?_
  refine dwp_region ?_
  refine walk_r rfl rfl rfl (op_ixal rfl ar103 (ev1 rfl) (ev1 rfl) (fun _ => by omega)) ?_
  refine walk_s rfl rfl (op_staf (en := b8) (j := 0) (c := 0) (0) (45) rfl tb5 (ev1 rfl) (ev1 rfl) rfl rfl rfl rfl (fun _ => rfl) (fun _ => @lt_len _ 24 _ (by omega) (memD_len (by show 1 + _ ≤ 24; omega) (Nat.le_refl _))) (Nat.le_of_ble_eq_true rfl) rfl) (by simp only [upd, List.set_cons_zero, List.set_cons_succ]; exact rfl) ?_
  refine walk_nil ?_
  refine dwp_seq ?_
  refine dwp_region ?_
  refine walk_r rfl rfl rfl (op_move (.inl rfl) (ev1 rfl)) ?_
  refine walk_r rfl rfl rfl (op_add' rfl (ev1 rfl) (ev1 rfl) (fun _ => IntWalk.i64_in _ (by omega))) ?_
  refine walk_r rfl rfl rfl (op_slan (p := 0) (q := 1 + (dg n).length) rfl ar103 (ev1 rfl) rfl bd_none (bd_some (ev1 rfl)) (fun _ => by omega) (fun _ => by omega) (fun _ => by omega)) ?_
  refine walk_r rfl rfl rfl (op_cbo (l := 45 :: dg n) rfl Tryd.underlying100 Tryd.underlying5 Tryd.underlying9 (ev1 rfl) rfl (fun _ => fin_neg (by omega)) (fun _ => Nat.add_comm _ _)) ?_
  refine walk_r rfl rfl rfl (op_move (.inr rfl) (ev1 rfl)) ?_
  refine walk_nil ?_
  refine dwp_ret ?_
  refine kend [0] (rs1 rfl (rv_t rfl)) rfl rfl ?_ ⟨rfl, trivial⟩
  rfl
end Go.Proofs.YtaekkjhpdendoaaDoor

namespace Go.Proofs.YtaekkjhpdendoaaDoor
set_option linter.unusedVariables false
set_option linter.unusedSimpArgs false
open Go.RowKit
/-- a site's number, told -/
def sgn (s : Int) : List Nat := if s < 0 then 45 :: dg (0 - s).toNat else dg s.toNat
theorem sgn_B (s : Int) : isB (sgn s) := by
  unfold sgn
  split
  · intro x hx
    rcases List.mem_cons.1 hx with rfl | h
    · decide
    · exact dg_B _ x h
  · exact dg_B _
theorem sgn_len {s : Int} (h1 : -9223372036854775808 ≤ s) (h2 : s ≤ 9223372036854775807) : (sgn s).length ≤ 21 := by
  unfold sgn
  split
  · have := dg_24 (n := (0 - s).toNat) (by omega)
    rw [List.length_cons]; omega
  · have := dg_24 (n := s.toNat) (by omega)
    omega
/-- an id's text -/
def tx (i : I3) : List Nat := (((dg i.t.toNat ++ [46]) ++ sgn i.s) ++ [46]) ++ dg i.q.toNat
def I3.rng (i : I3) : Prop := (0 ≤ i.t ∧ i.t ≤ 18446744073709551615) ∧ (-9223372036854775808 ≤ i.s ∧ i.s ≤ 9223372036854775807) ∧ (0 ≤ i.q ∧ i.q ≤ 18446744073709551615)
theorem isB_app {a b : List Nat} (h1 : isB a) (h2 : isB b) : isB (a ++ b) := fun x hx => (List.mem_append.1 hx).elim (h1 x) (h2 x)
theorem isB_46 : isB [46] := fun x hx => by simp at hx; omega
theorem tx_B (i : I3) : isB (tx i) := isB_app (isB_app (isB_app (isB_app (dg_B _) isB_46) (sgn_B _)) isB_46) (dg_B _)
theorem tx_len {i : I3} (h : i.rng) : (tx i).length ≤ 63 := by
  have h1 := dg_24 (n := i.t.toNat) (by have := h.1; omega)
  have h2 := sgn_len h.2.1.1 h.2.1.2
  have h3 := dg_24 (n := i.q.toNat) (by have := h.2.2; omega)
  unfold tx
  simp only [List.length_append, List.length_singleton]
  omega
set_option maxRecDepth 4000 in
set_option maxHeartbeats 1000000 in
theorem fmtUs_d (z : Int) (n : Nat) (hz : z = (n : Int)) (hn : n < 18446744073709551616) : DFun Tryd.prog 47 [.val (.int .u64 z), .val (.int .i64 10)] [.glob 0 pow10L] (.val (.string (strN (dg n)))) [.glob 0 pow10L] := by
  refine dcalls_go (N := 8) 1 (by kernel_rfl) Tryd.func47 rfl rfl rfl (by simp only [fr0, Nat.zero_add, Nat.reduceAdd]; exact rfl) rfl fun s0 hs0 => ?_
  refine dwp_seq ?_
  refine dwp_region ?_
  refine walk_r rfl rfl rfl (op_move (.inr rfl) (ev1 rfl)) ?_
  refine walk_nil ?_
  refine dwp_seq ?_
  refine dwp_region ?_
  refine walk_r rfl rfl rfl (op_move (.inl rfl) (ev1 rfl)) ?_
  refine walk_r rfl rfl rfl (op_move (.inl rfl) (ev1 rfl)) ?_
  refine walk_w rfl rfl rfl (dop_call [0] [] [] rfl (ev1 rfl) (ec (ev1 rfl) (ec (ev1 rfl) en)) rfl rfl (fmtU_d _ n hz hn) rfl rfl rfl rfl rfl rfl) (by simp only [upd, List.set_cons_zero, List.set_cons_succ]; exact rfl) ?_
  refine walk_r rfl rfl rfl (op_move (.inr rfl) (ev1 rfl)) ?_
  refine walk_nil ?_
  refine dwp_ret ?_
  refine kend [0] (rs1 rfl (rv_t rfl)) rfl rfl ?_ ⟨rfl, trivial⟩
  rfl
theorem fmtI_d (z : Int) (h1 : -9223372036854775808 ≤ z) (h2 : z ≤ 9223372036854775807) : DFun Tryd.prog 68 [.val (.int .i64 z), .val (.int .i64 10)] [.glob 0 pow10L] (.val (.string (strN (sgn z)))) [.glob 0 pow10L] := by
  unfold sgn
  split
  · exact fmtI_neg z (0 - z).toNat (by omega) (by omega) (by omega)
  · exact fmtI_pos z z.toNat (by omega) (by omega)
set_option maxRecDepth 4000 in
set_option maxHeartbeats 1000000 in
theorem itoa_d (z : Int) (h1 : -9223372036854775808 ≤ z) (h2 : z ≤ 9223372036854775807) : DFun Tryd.prog 61 [.val (.int .i64 z)] [.glob 0 pow10L] (.val (.string (strN (sgn z)))) [.glob 0 pow10L] := by
  refine dcalls_go (N := 5) 1 (by kernel_rfl) Tryd.func61 rfl rfl rfl (by simp only [fr0, Nat.zero_add, Nat.reduceAdd]; exact rfl) rfl fun s0 hs0 => ?_
  refine dwp_seq ?_
  refine dwp_region ?_
  refine walk_r rfl rfl rfl (op_move (.inr rfl) (ev1 rfl)) ?_
  refine walk_nil ?_
  refine dwp_seq ?_
  refine dwp_region ?_
  refine walk_r rfl rfl rfl (op_move (.inl rfl) (ev1 rfl)) ?_
  refine walk_w rfl rfl rfl (dop_call [0] [] [] rfl (ev1 rfl) (ec (ev1 rfl) (ec (ev1 rfl) en)) rfl rfl (fmtI_d _ h1 h2) rfl rfl rfl rfl rfl rfl) (by simp only [upd, List.set_cons_zero, List.set_cons_succ]; exact rfl) ?_
  refine walk_r rfl rfl rfl (op_move (.inr rfl) (ev1 rfl)) ?_
  refine walk_nil ?_
  refine dwp_ret ?_
  refine kend [0] (rs1 rfl (rv_t rfl)) rfl rfl ?_ ⟨rfl, trivial⟩
  rfl
set_option maxRecDepth 4000 in
set_option maxHeartbeats 1000000 in
theorem itoas_d (z : Int) (h1 : -9223372036854775808 ≤ z) (h2 : z ≤ 9223372036854775807) : DFun Tryd.prog 48 [.val (.int .i64 z)] [.glob 0 pow10L] (.val (.string (strN (sgn z)))) [.glob 0 pow10L] := by
  refine dcalls_go (N := 5) 1 (by kernel_rfl) Tryd.func48 rfl rfl rfl (by simp only [fr0, Nat.zero_add, Nat.reduceAdd]; exact rfl) rfl fun s0 hs0 => ?_
  refine dwp_seq ?_
  refine dwp_region ?_
  refine walk_r rfl rfl rfl (op_move (.inr rfl) (ev1 rfl)) ?_
  refine walk_nil ?_
  refine dwp_seq ?_
  refine dwp_region ?_
  refine walk_r rfl rfl rfl (op_move (.inl rfl) (ev1 rfl)) ?_
  refine walk_w rfl rfl rfl (dop_call [0] [] [] rfl (ev1 rfl) (ec (ev1 rfl) en) rfl rfl (itoa_d _ h1 h2) rfl rfl rfl rfl rfl rfl) (by simp only [upd, List.set_cons_zero, List.set_cons_succ]; exact rfl) ?_
  refine walk_r rfl rfl rfl (op_move (.inr rfl) (ev1 rfl)) ?_
  refine walk_nil ?_
  refine dwp_ret ?_
  refine kend [0] (rs1 rfl (rv_t rfl)) rfl rfl ?_ ⟨rfl, trivial⟩
  rfl
set_option maxRecDepth 4000 in
set_option maxHeartbeats 1000000 in
theorem text_d (i : I3) (hi : i.rng) : DFun Tryd.prog 31 [idD i] [.glob 0 pow10L] (.val (.string (strN (tx i)))) [.glob 0 pow10L] := by
  refine dcalls_go (N := 16) 1 (by kernel_rfl) Tryd.func31 rfl rfl rfl (by simp only [fr0, Nat.zero_add, Nat.reduceAdd]; exact rfl) rfl fun s0 hs0 => ?_
  refine dwp_seq ?_
  have d1 := dg_24 (n := i.t.toNat) (by have := hi.1; omega)
  have d2 := sgn_len hi.2.1.1 hi.2.1.2
  have d3 := dg_24 (n := i.q.toNat) (by have := hi.2.2; omega)
  have q1 := hi.1
  have q2 := hi.2.1
  have q3 := hi.2.2
  refine dwp_holes 1 (by simp only [holes, List.cons_append, List.nil_append]; exact rfl) ?_
  refine dwp_region ?_
  refine walk_w rfl rfl rfl (op_boxa 1 rfl (ev1 rfl) rfl) (by simp only [upd, List.set_cons_zero, List.set_cons_succ]; exact rfl) ?_
  refine walk_r rfl rfl rfl (op_move (.inr rfl) (ev1 rfl)) ?_
  refine walk_nil ?_
  refine dwp_seq ?_
  refine dwp_draw [([], []), ([1], []), ([0], [0]), ([], []), ([], []), ([1], []), ([0], [0]), ([], []), ([], []), ([], []), ([1], []), ([0], [0]), ([], []), ([], [])] mixed (by kernel_rfl) ?_
  refine lex_r rfl rfl (op_fa rfl fo27_0 (ev1 rfl)) ?_
  refine lex_r rfl rfl (op_ldo rfl tb25 (ev1 rfl) rfl rfl) ?_
  refine lex_w rfl rfl (dop_call [0] [] [] rfl (ev1 rfl) (ec (ev1 rfl) (ec (ev1 rfl) en)) rfl rfl (fmtUs_d _ i.t.toNat (by omega) (by omega)) rfl rfl rfl rfl rfl rfl) rfl (by simp only [upd, List.set_cons_zero, List.set_cons_succ]; exact rfl) ?_
  refine lex_r rfl rfl (op_catn (q := [46]) rfl (ev1 rfl) (ev1 rfl) (fun _ => by simp only [List.length_append, List.length_singleton]; omega)) ?_
  refine lex_r rfl rfl (op_fa rfl fo27_1 (ev1 rfl)) ?_
  refine lex_r rfl rfl (op_ldo rfl tb3 (ev1 rfl) rfl rfl) ?_
  refine lex_w rfl rfl (dop_call [0] [] [] rfl (ev1 rfl) (ec (ev1 rfl) en) rfl rfl (itoas_d _ q2.1 q2.2) rfl rfl rfl rfl rfl rfl) rfl (by simp only [upd, List.set_cons_zero, List.set_cons_succ]; exact rfl) ?_
  refine lex_r rfl rfl (op_catn rfl (ev1 rfl) (ev1 rfl) (fun _ => by simp only [List.length_append, List.length_singleton]; omega)) ?_
  refine lex_r rfl rfl (op_catn (q := [46]) rfl (ev1 rfl) (ev1 rfl) (fun _ => by simp only [List.length_append, List.length_singleton]; omega)) ?_
  refine lex_r rfl rfl (op_fa rfl fo27_2 (ev1 rfl)) ?_
  refine lex_r rfl rfl (op_ldo rfl tb25 (ev1 rfl) rfl rfl) ?_
  refine lex_w rfl rfl (dop_call [0] [] [] rfl (ev1 rfl) (ec (ev1 rfl) (ec (ev1 rfl) en)) rfl rfl (fmtUs_d _ i.q.toNat (by omega) (by omega)) rfl rfl rfl rfl rfl rfl) rfl (by simp only [upd, List.set_cons_zero, List.set_cons_succ]; exact rfl) ?_
  refine lex_r rfl rfl (op_catn rfl (ev1 rfl) (ev1 rfl) (fun _ => by simp only [List.length_append, List.length_singleton]; omega)) ?_
  refine lex_r rfl rfl (op_move (.inr rfl) (ev1 rfl)) ?_
  refine lex_nil ?_
  refine dwp_ret ?_
  refine kend [0] (rs1 rfl (rv_t rfl)) rfl rfl ?_ ⟨rfl, trivial⟩
  rfl
set_option maxRecDepth 4000 in
set_option maxHeartbeats 1000000 in
theorem digits_s (n : Nat) (ih : ∀ m, m < n → ∀ z : Int, z = (m : Int) → DFun Tryd.prog 49 [.val (.int .u64 z)] [] (.val (.string (strN (dg m)))) []) (z : Int) (hz : z = (n : Int)) (hn : n < 18446744073709551616) : DFun Tryd.prog 49 [.val (.int .u64 z)] [] (.val (.string (strN (dg n)))) [] := by
  refine dcalls_go (N := 18) 0 (by kernel_rfl) Tryd.func49 rfl rfl rfl (by simp only [fr0, Nat.zero_add, Nat.reduceAdd]; exact rfl) rfl fun s0 hs0 => ?_
  refine dwp_seq ?_
  refine dwp_region ?_
  refine walk_r rfl rfl rfl (op_move (.inr rfl) (ev1 rfl)) ?_
  refine walk_nil ?_
  refine dwp_seq ?_
  refine dwp_region ?_
  refine walk_r rfl rfl rfl (op_move (.inl rfl) (ev1 rfl)) ?_
  refine walk_r rfl rfl rfl (op_rem' rfl (ev1 rfl) (ev1 rfl) (fun _ => ⟨by omega, by omega⟩)) ?_
  refine walk_r rfl rfl rfl (op_add' rfl (ev1 rfl) (ev1 rfl) (fun _ => IntWalk.u64_in _ (by omega))) ?_
  refine walk_r rfl rfl rfl (op_conv' ty25 kn5 rfl (ev1 rfl) (fun _ => IntWalk.u8_in _ (by omega))) ?_
  refine walk_r rfl rfl rfl (op_bs (ps := [(0, .tmp 7)]) rfl sl100 zr5 rfl (vc (ev1 rfl) vn) rfl (by decide) (by decide)) ?_
  refine walk_r rfl rfl rfl (op_cbs (l := [48 + n % 10]) rfl Tryd.underlying100 Tryd.underlying5 Tryd.underlying9 (ev1 rfl) (fun _ => congrArg (fun z => [Value.int .u8 z]) (by omega))) ?_
  refine walk_r rfl rfl rfl (op_move (.inr rfl) (ev1 rfl)) ?_
  refine walk_nil ?_
  refine dwp_seq ?_
  refine dwp_seq ?_
  refine dwp_region ?_
  refine walk_r rfl rfl rfl (op_move (.inl rfl) (ev1 rfl)) ?_
  refine walk_r rfl rfl rfl (op_gtr rfl (ev1 rfl) (ev1 rfl)) ?_
  refine walk_nil ?_
  refine dwp_cond rfl (fun c1 => ?_) (fun c1 => ?_)
  · try simp only [decide_eq_true_eq, decide_eq_false_iff_not, beq_iff_eq, bne_iff_ne, beq_eq_false_iff_ne, bne_eq_false_iff_eq, Bool.not_eq_true', Bool.not_eq_false', Bool.and_eq_true, Bool.or_eq_true, Bool.or_eq_false_iff, ne_eq, Decidable.not_not, Int.not_lt, Int.not_le] at c1
    have hd := dg_24 (n := n / 10) (by omega)
    refine dwp_region ?_
    refine walk_r rfl rfl rfl (op_move (.inl rfl) (ev1 rfl)) ?_
    refine walk_r rfl rfl rfl (op_quo' rfl (ev1 rfl) (ev1 rfl) (fun _ => ⟨by omega, by omega, IntWalk.u64_in _ (by omega)⟩)) ?_
    refine walk_r rfl rfl rfl (dop_call [] [] [] rfl (ev1 rfl) (ec (ev1 rfl) en) rfl rfl (ih (n / 10) (by omega) _ (by omega)) rfl rfl rfl rfl rfl rfl) ?_
    refine walk_r rfl rfl rfl (op_move (.inl rfl) (ev1 rfl)) ?_
    refine walk_r rfl rfl rfl (op_catn rfl (ev1 rfl) (ev1 rfl) (fun _ => by simp only [List.length_append, List.length_singleton]; omega)) ?_
    refine walk_r rfl rfl rfl (op_move (.inr rfl) (ev1 rfl)) ?_
    refine walk_nil ?_
    refine dwp_seq ?_
    refine dwp_region ?_
    refine walk_r rfl rfl rfl (op_move (.inl rfl) (ev1 rfl)) ?_
    refine walk_r rfl rfl rfl (op_move (.inr rfl) (ev1 rfl)) ?_
    refine walk_nil ?_
    refine dwp_ret ?_
    refine kend0 (rs1 rfl (rv_t rfl)) rfl ?_
    rw [dg_hi (n := n) (by omega)]
  · try simp only [decide_eq_true_eq, decide_eq_false_iff_not, beq_iff_eq, bne_iff_ne, beq_eq_false_iff_ne, bne_eq_false_iff_eq, Bool.not_eq_true', Bool.not_eq_false', Bool.and_eq_true, Bool.or_eq_true, Bool.or_eq_false_iff, ne_eq, Decidable.not_not, Int.not_lt, Int.not_le] at c1
    refine dwp_skip ?_
    refine dwp_seq ?_
    refine dwp_region ?_
    refine walk_r rfl rfl rfl (op_move (.inl rfl) (ev1 rfl)) ?_
    refine walk_r rfl rfl rfl (op_move (.inr rfl) (ev1 rfl)) ?_
    refine walk_nil ?_
    refine dwp_ret ?_
    refine kend0 (rs1 rfl (rv_t rfl)) rfl ?_
    rw [dg_lo (n := n) (by omega), Nat.mod_eq_of_lt (by omega)]
theorem digits_d : ∀ (n : Nat) (z : Int), z = (n : Int) → n < 18446744073709551616 → DFun Tryd.prog 49 [.val (.int .u64 z)] [] (.val (.string (strN (dg n)))) [] := by
  intro n
  induction n using Nat.strongRecOn with
  | _ n ih => exact fun z hz hn => digits_s n (fun m hm z hz => ih m hm z hz (by omega)) z hz hn
set_option maxRecDepth 4000 in
set_option maxHeartbeats 1000000 in
theorem rtext_d (i : I3) (hi : i.rng) : DFun Tryd.prog 32 [idD i] [] (.val (.string (strN (tx i)))) [] := by
  refine dcalls_go (N := 30) 0 (by kernel_rfl) Tryd.func32 rfl rfl rfl (by simp only [fr0, Nat.zero_add, Nat.reduceAdd]; exact rfl) rfl fun s0 hs0 => ?_
  refine dwp_seq ?_
  have d1 := dg_24 (n := i.t.toNat) (by have := hi.1; omega)
  have d2 := sgn_len hi.2.1.1 hi.2.1.2
  have d3 := dg_24 (n := i.q.toNat) (by have := hi.2.2; omega)
  have q1 := hi.1
  have q2 := hi.2.1
  have q3 := hi.2.2
  refine dwp_holes 1 (by simp only [holes, List.cons_append, List.nil_append]; exact rfl) ?_
  refine dwp_region ?_
  refine walk_w rfl rfl rfl (op_boxa 0 rfl (ev1 rfl) rfl) (by simp only [upd, List.set_cons_zero, List.set_cons_succ]; exact rfl) ?_
  refine walk_r rfl rfl rfl (op_move (.inr rfl) (ev1 rfl)) ?_
  refine walk_nil ?_
  refine dwp_seq ?_
  refine dwp_region ?_
  refine walk_r rfl rfl rfl (op_move (.inr rfl) (ev1 rfl)) ?_
  refine walk_nil ?_
  refine dwp_seq ?_
  refine dwp_seq ?_
  refine dwp_region ?_
  refine walk_r rfl rfl rfl (op_fa rfl fo27_1 (ev1 rfl)) ?_
  refine walk_r rfl rfl rfl (op_ldo rfl tb3 (ev1 rfl) rfl rfl) ?_
  refine walk_r rfl rfl rfl (op_lss rfl (ev1 rfl) (ev1 rfl)) ?_
  refine walk_nil ?_
  refine dwp_cond rfl (fun c1 => ?_) (fun c1 => ?_)
  · try simp only [decide_eq_true_eq, decide_eq_false_iff_not, beq_iff_eq, bne_iff_ne, beq_eq_false_iff_ne, bne_eq_false_iff_eq, Bool.not_eq_true', Bool.not_eq_false', Bool.and_eq_true, Bool.or_eq_true, Bool.or_eq_false_iff, ne_eq, Decidable.not_not, Int.not_lt, Int.not_le] at c1
    have d4 := dg_24 (n := (0 - i.s).toNat) (by omega)
    refine dwp_region ?_
    refine walk_r rfl rfl rfl (op_fa rfl fo27_1 (ev1 rfl)) ?_
    refine walk_r rfl rfl rfl (op_ldo rfl tb3 (ev1 rfl) rfl rfl) ?_
    refine walk_r rfl rfl rfl (op_add' rfl (ev1 rfl) (ev1 rfl) (fun _ => IntWalk.i64_in _ (by omega))) ?_
    refine walk_r rfl rfl rfl (op_neg' rfl (ev1 rfl) (fun _ => IntWalk.i64_in _ (by omega))) ?_
    refine walk_r rfl rfl rfl (op_conv' ty3 kn25 rfl (ev1 rfl) (fun _ => IntWalk.u64_in _ (by omega))) ?_
    refine walk_r rfl rfl rfl (op_add' rfl (ev1 rfl) (ev1 rfl) (fun _ => IntWalk.u64_in _ (by omega))) ?_
    refine walk_r rfl rfl rfl (dop_call [] [] [] rfl (ev1 rfl) (ec (ev1 rfl) en) rfl rfl (digits_d (0 - i.s).toNat _ (by omega) (by omega)) rfl rfl rfl rfl rfl rfl) ?_
    refine walk_r rfl rfl rfl (op_catn (p := [45]) rfl (ev1 rfl) (ev1 rfl) (fun _ => by simp only [List.length_append, List.length_singleton, List.length_cons, List.length_nil]; first | omega | (have d5 := dg_24 (n := i.s.toNat) (by omega); omega))) ?_
    refine walk_r rfl rfl rfl (op_move (.inr rfl) (ev1 rfl)) ?_
    refine walk_nil ?_
    refine dwp_seq ?_
    refine dwp_draw [([], []), ([0], []), ([], []), ([], []), ([], []), ([], []), ([], []), ([], []), ([0], []), ([], []), ([], []), ([], [])] mixed (by kernel_rfl) ?_
    refine lex_r rfl rfl (op_fa rfl fo27_0 (ev1 rfl)) ?_
    refine lex_r rfl rfl (op_ldo rfl tb25 (ev1 rfl) rfl rfl) ?_
    refine lex_r rfl rfl (dop_call [] [] [] rfl (ev1 rfl) (ec (ev1 rfl) en) rfl rfl (digits_d i.t.toNat _ (by omega) (by omega)) rfl rfl rfl rfl rfl rfl) ?_
    refine lex_r rfl rfl (op_catn (q := [46]) rfl (ev1 rfl) (ev1 rfl) (fun _ => by simp only [List.length_append, List.length_singleton]; omega)) ?_
    refine lex_r rfl rfl (op_move (.inl rfl) (ev1 rfl)) ?_
    refine lex_r rfl rfl (op_catn rfl (ev1 rfl) (ev1 rfl) (fun _ => by simp only [List.length_append, List.length_singleton, List.length_cons, List.length_nil]; first | omega | (have d5 := dg_24 (n := i.s.toNat) (by omega); omega))) ?_
    refine lex_r rfl rfl (op_catn (q := [46]) rfl (ev1 rfl) (ev1 rfl) (fun _ => by simp only [List.length_append, List.length_singleton, List.length_cons, List.length_nil]; first | omega | (have d5 := dg_24 (n := i.s.toNat) (by omega); omega))) ?_
    refine lex_r rfl rfl (op_fa rfl fo27_2 (ev1 rfl)) ?_
    refine lex_r rfl rfl (op_ldo rfl tb25 (ev1 rfl) rfl rfl) ?_
    refine lex_r rfl rfl (dop_call [] [] [] rfl (ev1 rfl) (ec (ev1 rfl) en) rfl rfl (digits_d i.q.toNat _ (by omega) (by omega)) rfl rfl rfl rfl rfl rfl) ?_
    refine lex_r rfl rfl (op_catn rfl (ev1 rfl) (ev1 rfl) (fun _ => by simp only [List.length_append, List.length_singleton, List.length_cons, List.length_nil]; first | omega | (have d5 := dg_24 (n := i.s.toNat) (by omega); omega))) ?_
    refine lex_r rfl rfl (op_move (.inr rfl) (ev1 rfl)) ?_
    refine lex_nil ?_
    refine dwp_ret ?_
    refine kend0 (rs1 rfl (rv_t rfl)) rfl ?_
    have e : sgn i.s = 45 :: dg (0 - i.s).toNat := if_pos (by omega)
    unfold tx
    rw [e]; rfl
  · try simp only [decide_eq_true_eq, decide_eq_false_iff_not, beq_iff_eq, bne_iff_ne, beq_eq_false_iff_ne, bne_eq_false_iff_eq, Bool.not_eq_true', Bool.not_eq_false', Bool.and_eq_true, Bool.or_eq_true, Bool.or_eq_false_iff, ne_eq, Decidable.not_not, Int.not_lt, Int.not_le] at c1
    refine dwp_region ?_
    refine walk_r rfl rfl rfl (op_fa rfl fo27_1 (ev1 rfl)) ?_
    refine walk_r rfl rfl rfl (op_ldo rfl tb3 (ev1 rfl) rfl rfl) ?_
    refine walk_r rfl rfl rfl (op_conv' ty3 kn25 rfl (ev1 rfl) (fun _ => IntWalk.u64_in _ (by omega))) ?_
    refine walk_r rfl rfl rfl (dop_call [] [] [] rfl (ev1 rfl) (ec (ev1 rfl) en) rfl rfl (digits_d i.s.toNat _ (by omega) (by omega)) rfl rfl rfl rfl rfl rfl) ?_
    refine walk_r rfl rfl rfl (op_move (.inr rfl) (ev1 rfl)) ?_
    refine walk_nil ?_
    refine dwp_seq ?_
    refine dwp_draw [([], []), ([0], []), ([], []), ([], []), ([], []), ([], []), ([], []), ([], []), ([0], []), ([], []), ([], []), ([], [])] mixed (by kernel_rfl) ?_
    refine lex_r rfl rfl (op_fa rfl fo27_0 (ev1 rfl)) ?_
    refine lex_r rfl rfl (op_ldo rfl tb25 (ev1 rfl) rfl rfl) ?_
    refine lex_r rfl rfl (dop_call [] [] [] rfl (ev1 rfl) (ec (ev1 rfl) en) rfl rfl (digits_d i.t.toNat _ (by omega) (by omega)) rfl rfl rfl rfl rfl rfl) ?_
    refine lex_r rfl rfl (op_catn (q := [46]) rfl (ev1 rfl) (ev1 rfl) (fun _ => by simp only [List.length_append, List.length_singleton]; omega)) ?_
    refine lex_r rfl rfl (op_move (.inl rfl) (ev1 rfl)) ?_
    refine lex_r rfl rfl (op_catn rfl (ev1 rfl) (ev1 rfl) (fun _ => by simp only [List.length_append, List.length_singleton, List.length_cons, List.length_nil]; first | omega | (have d5 := dg_24 (n := i.s.toNat) (by omega); omega))) ?_
    refine lex_r rfl rfl (op_catn (q := [46]) rfl (ev1 rfl) (ev1 rfl) (fun _ => by simp only [List.length_append, List.length_singleton, List.length_cons, List.length_nil]; first | omega | (have d5 := dg_24 (n := i.s.toNat) (by omega); omega))) ?_
    refine lex_r rfl rfl (op_fa rfl fo27_2 (ev1 rfl)) ?_
    refine lex_r rfl rfl (op_ldo rfl tb25 (ev1 rfl) rfl rfl) ?_
    refine lex_r rfl rfl (dop_call [] [] [] rfl (ev1 rfl) (ec (ev1 rfl) en) rfl rfl (digits_d i.q.toNat _ (by omega) (by omega)) rfl rfl rfl rfl rfl rfl) ?_
    refine lex_r rfl rfl (op_catn rfl (ev1 rfl) (ev1 rfl) (fun _ => by simp only [List.length_append, List.length_singleton, List.length_cons, List.length_nil]; first | omega | (have d5 := dg_24 (n := i.s.toNat) (by omega); omega))) ?_
    refine lex_r rfl rfl (op_move (.inr rfl) (ev1 rfl)) ?_
    refine lex_nil ?_
    refine dwp_ret ?_
    refine kend0 (rs1 rfl (rv_t rfl)) rfl ?_
    have e : sgn i.s = dg i.s.toNat := if_neg (by omega)
    unfold tx
    rw [e]
end Go.Proofs.YtaekkjhpdendoaaDoor

namespace Go.Proofs.YtaekkjhpdendoaaDoor
set_option linter.unusedVariables false
set_option linter.unusedSimpArgs false
open Go.RowKit
theorem fl89 : fdL Tryd.prog 89 = some [] := by kernel_rfl
end Go.Proofs.YtaekkjhpdendoaaDoor

namespace Go.Proofs.YtaekkjhpdendoaaDoor
set_option linter.unusedVariables false
set_option linter.unusedSimpArgs false
open Go.RowKit
set_option maxRecDepth 4000 in
set_option maxHeartbeats 1000000 in
theorem isNumber_d (n : Int) : DFun Tryd.prog 35 [.val (.int .u64 n)] [] (.val (.bool (isNum n))) [] := by
  refine dcalls_go (N := 9) 0 (by kernel_rfl) Tryd.func35 rfl rfl rfl (by simp only [fr0, Nat.zero_add, Nat.reduceAdd]; exact rfl) rfl fun s0 hs0 => ?_
  refine dwp_seq ?_
  refine dwp_region ?_
  refine walk_r rfl rfl rfl (op_move (.inr rfl) (ev1 rfl)) ?_
  refine walk_nil ?_
  refine dwp_seq ?_
  refine dwp_region ?_
  refine walk_r rfl rfl rfl (op_move (.inl rfl) (ev1 rfl)) ?_
  refine walk_r rfl rfl rfl (op_geq rfl (ev1 rfl) (ev1 rfl)) ?_
  refine walk_r rfl rfl rfl (op_move (.inl rfl) (ev1 rfl)) ?_
  refine walk_gr (gd_t rfl rfl rfl) rfl rfl rfl (op_move (.inl rfl) (ev1 rfl)) ?_
  refine walk_gr (gd_t rfl rfl rfl) rfl rfl rfl (op_leq rfl (ev2 rfl) (ev1 rfl)) ?_
  refine walk_r rfl rfl rfl (op_and rfl (ev1 rfl) (ev3 rfl id)) ?_
  refine walk_r rfl rfl rfl (op_move (.inr rfl) (ev1 rfl)) ?_
  refine walk_nil ?_
  refine dwp_ret ?_
  refine kend0 (rs1 rfl (rv_t rfl)) rfl ?_
  rfl
set_option maxRecDepth 4000 in
set_option maxHeartbeats 1000000 in
theorem isSite_d (n : Int) : DFun Tryd.prog 36 [.val (.int .i64 n)] [] (.val (.bool (isSt n))) [] := by
  refine dcalls_go (N := 9) 0 (by kernel_rfl) Tryd.func36 rfl rfl rfl (by simp only [fr0, Nat.zero_add, Nat.reduceAdd]; exact rfl) rfl fun s0 hs0 => ?_
  refine dwp_seq ?_
  refine dwp_region ?_
  refine walk_r rfl rfl rfl (op_move (.inr rfl) (ev1 rfl)) ?_
  refine walk_nil ?_
  refine dwp_seq ?_
  refine dwp_region ?_
  refine walk_r rfl rfl rfl (op_move (.inl rfl) (ev1 rfl)) ?_
  refine walk_r rfl rfl rfl (op_geq rfl (ev1 rfl) (ev1 rfl)) ?_
  refine walk_r rfl rfl rfl (op_move (.inl rfl) (ev1 rfl)) ?_
  refine walk_gr (gd_t rfl rfl rfl) rfl rfl rfl (op_move (.inl rfl) (ev1 rfl)) ?_
  refine walk_gr (gd_t rfl rfl rfl) rfl rfl rfl (op_leq rfl (ev2 rfl) (ev1 rfl)) ?_
  refine walk_r rfl rfl rfl (op_and rfl (ev1 rfl) (ev3 rfl id)) ?_
  refine walk_r rfl rfl rfl (op_move (.inr rfl) (ev1 rfl)) ?_
  refine walk_nil ?_
  refine dwp_ret ?_
  refine kend0 (rs1 rfl (rv_t rfl)) rfl ?_
  rfl
set_option maxRecDepth 4000 in
set_option maxHeartbeats 1000000 in
theorem check_d (i : I3) : DFun Tryd.prog 11 [idD i] [] (.val (.int .i64 (errOr (mayR i) 210))) [] := by
  refine dcalls_go (N := 19) 0 (by kernel_rfl) Tryd.func11 rfl rfl rfl (by simp only [fr0, Nat.zero_add, Nat.reduceAdd]; exact rfl) rfl fun s0 hs0 => ?_
  refine dwp_seq ?_
  refine dwp_holes 1 (by simp only [holes, List.cons_append, List.nil_append]; exact rfl) ?_
  refine dwp_region ?_
  refine walk_w rfl rfl rfl (op_boxa 0 rfl (ev1 rfl) rfl) (by simp only [upd, List.set_cons_zero, List.set_cons_succ]; exact rfl) ?_
  refine walk_r rfl rfl rfl (op_move (.inr rfl) (ev1 rfl)) ?_
  refine walk_nil ?_
  refine dwp_seq ?_
  refine dwp_seq ?_
  refine dwp_region ?_
  refine walk_r rfl rfl rfl (op_fa rfl fo27_0 (ev1 rfl)) ?_
  refine walk_r rfl rfl rfl (op_ldo rfl tb25 (ev1 rfl) rfl rfl) ?_
  refine walk_r rfl rfl rfl (dop_call [] [] [] rfl (ev1 rfl) (ec (ev1 rfl) en) rfl rfl (isNumber_d _) rfl rfl rfl rfl rfl rfl) ?_
  refine walk_r rfl rfl rfl (op_not rfl (ev1 rfl)) ?_
  refine walk_r rfl rfl rfl (op_move (.inl rfl) (ev1 rfl)) ?_
  refine walk_gr (gd_f rfl rfl rfl) rfl rfl rfl (op_fa rfl fo27_1 (ev1 rfl)) ?_
  refine walk_gr (gd_f rfl rfl rfl) rfl rfl rfl (op_ldo rfl tb3 (ev2 rfl) rfl rfl) ?_
  refine walk_gr (gd_f rfl rfl rfl) rfl rfl rfl (dop_call [] [] [] rfl (ev1 rfl) (ec (ev2 rfl) en) rfl rfl (isSite_d _) rfl rfl rfl rfl rfl rfl) ?_
  refine walk_gr (gd_f rfl rfl rfl) rfl rfl rfl (op_not rfl (ev2 rfl)) ?_
  refine walk_r rfl rfl rfl (op_or rfl (ev1 rfl) (ev3 rfl id)) ?_
  refine walk_r rfl rfl rfl (op_move (.inl rfl) (ev1 rfl)) ?_
  refine walk_gr (gd_f rfl rfl rfl) rfl rfl rfl (op_fa rfl fo27_2 (ev1 rfl)) ?_
  refine walk_gr (gd_f rfl rfl rfl) rfl rfl rfl (op_ldo rfl tb25 (ev2 rfl) rfl rfl) ?_
  refine walk_gr (gd_f rfl rfl rfl) rfl rfl rfl (dop_call [] [] [] rfl (ev1 rfl) (ec (ev2 rfl) en) rfl rfl (isNumber_d _) rfl rfl rfl rfl rfl rfl) ?_
  refine walk_gr (gd_f rfl rfl rfl) rfl rfl rfl (op_not rfl (ev2 rfl)) ?_
  refine walk_r rfl rfl rfl (op_or rfl (ev1 rfl) (ev3 rfl id)) ?_
  refine walk_nil ?_
  refine dwp_cond rfl (fun c1 => ?_) (fun c1 => ?_)
  · try simp only [decide_eq_true_eq, decide_eq_false_iff_not, beq_iff_eq, bne_iff_ne, beq_eq_false_iff_ne, bne_eq_false_iff_eq, Bool.not_eq_true', Bool.not_eq_false', Bool.and_eq_true, Bool.or_eq_true, Bool.or_eq_false_iff, ne_eq, Decidable.not_not, Int.not_lt, Int.not_le] at c1
    refine dwp_seq ?_
    refine dwp_region ?_
    refine walk_r rfl rfl rfl (op_move (.inr rfl) (ev1 rfl)) ?_
    refine walk_nil ?_
    refine dwp_ret ?_
    refine kend0 (rs1 rfl (rv_t rfl)) rfl ?_
    cases h1 : isNum i.t <;> cases h2 : isSt i.s <;> cases h3 : isNum i.q <;> simp_all [mayR, errOr]
  · try simp only [decide_eq_true_eq, decide_eq_false_iff_not, beq_iff_eq, bne_iff_ne, beq_eq_false_iff_ne, bne_eq_false_iff_eq, Bool.not_eq_true', Bool.not_eq_false', Bool.and_eq_true, Bool.or_eq_true, Bool.or_eq_false_iff, ne_eq, Decidable.not_not, Int.not_lt, Int.not_le] at c1
    refine dwp_skip ?_
    refine dwp_seq ?_
    refine dwp_region ?_
    refine walk_r rfl rfl rfl (op_move (.inr rfl) (ev1 rfl)) ?_
    refine walk_nil ?_
    refine dwp_ret ?_
    refine kend0 (rs1 rfl (rv_t rfl)) rfl ?_
    cases h1 : isNum i.t <;> cases h2 : isSt i.s <;> cases h3 : isNum i.q <;> simp_all [mayR, errOr]
set_option maxRecDepth 4000 in
set_option maxHeartbeats 1000000 in
theorem refSite_d (n : Int) : DFun Tryd.prog 25 [.val (.int .i64 n)] [] (.val (.bool (isSt n))) [] := by
  refine dcalls_go (N := 9) 0 (by kernel_rfl) Tryd.func25 rfl rfl rfl (by simp only [fr0, Nat.zero_add, Nat.reduceAdd]; exact rfl) rfl fun s0 hs0 => ?_
  refine dwp_seq ?_
  refine dwp_region ?_
  refine walk_r rfl rfl rfl (op_move (.inr rfl) (ev1 rfl)) ?_
  refine walk_nil ?_
  refine dwp_seq ?_
  refine dwp_region ?_
  refine walk_r rfl rfl rfl (op_move (.inl rfl) (ev1 rfl)) ?_
  refine walk_r rfl rfl rfl (op_geq rfl (ev1 rfl) (ev1 rfl)) ?_
  refine walk_r rfl rfl rfl (op_move (.inl rfl) (ev1 rfl)) ?_
  refine walk_gr (gd_t rfl rfl rfl) rfl rfl rfl (op_move (.inl rfl) (ev1 rfl)) ?_
  refine walk_gr (gd_t rfl rfl rfl) rfl rfl rfl (op_leq rfl (ev2 rfl) (ev1 rfl)) ?_
  refine walk_r rfl rfl rfl (op_and rfl (ev1 rfl) (ev3 rfl id)) ?_
  refine walk_r rfl rfl rfl (op_move (.inr rfl) (ev1 rfl)) ?_
  refine walk_nil ?_
  refine dwp_ret ?_
  refine kend0 (rs1 rfl (rv_t rfl)) rfl ?_
  rfl
set_option maxRecDepth 4000 in
set_option maxHeartbeats 1000000 in
theorem refRight_d (i : I3) : DFun Tryd.prog 12 [idD i] [] (.val (.bool (mayR i))) [] := by
  refine dcalls_go (N := 26) 0 (by kernel_rfl) Tryd.func12 rfl rfl rfl (by simp only [fr0, Nat.zero_add, Nat.reduceAdd]; exact rfl) rfl fun s0 hs0 => ?_
  refine dwp_seq ?_
  refine dwp_holes 1 (by simp only [holes, List.cons_append, List.nil_append]; exact rfl) ?_
  refine dwp_region ?_
  refine walk_w rfl rfl rfl (op_boxa 0 rfl (ev1 rfl) rfl) (by simp only [upd, List.set_cons_zero, List.set_cons_succ]; exact rfl) ?_
  refine walk_r rfl rfl rfl (op_move (.inr rfl) (ev1 rfl)) ?_
  refine walk_nil ?_
  refine dwp_seq ?_
  refine dwp_region ?_
  refine walk_r rfl rfl rfl (op_fa rfl fo27_0 (ev1 rfl)) ?_
  refine walk_r rfl rfl rfl (op_ldo rfl tb25 (ev1 rfl) rfl rfl) ?_
  refine walk_r rfl rfl rfl (op_geq rfl (ev1 rfl) (ev1 rfl)) ?_
  refine walk_r rfl rfl rfl (op_move (.inl rfl) (ev1 rfl)) ?_
  refine walk_gr (gd_t rfl rfl rfl) rfl rfl rfl (op_fa rfl fo27_0 (ev1 rfl)) ?_
  refine walk_gr (gd_t rfl rfl rfl) rfl rfl rfl (op_ldo rfl tb25 (ev2 rfl) rfl rfl) ?_
  refine walk_gr (gd_t rfl rfl rfl) rfl rfl rfl (op_leq rfl (ev2 rfl) (ev1 rfl)) ?_
  refine walk_r rfl rfl rfl (op_and rfl (ev1 rfl) (ev3 rfl id)) ?_
  refine walk_r rfl rfl rfl (op_move (.inl rfl) (ev1 rfl)) ?_
  refine walk_gr (gd_t rfl rfl rfl) rfl rfl rfl (op_fa rfl fo27_1 (ev1 rfl)) ?_
  refine walk_gr (gd_t rfl rfl rfl) rfl rfl rfl (op_ldo rfl tb3 (ev2 rfl) rfl rfl) ?_
  refine walk_gr (gd_t rfl rfl rfl) rfl rfl rfl (dop_call [] [] [] rfl (ev1 rfl) (ec (ev2 rfl) en) rfl rfl (refSite_d _) rfl rfl rfl rfl rfl rfl) ?_
  refine walk_r rfl rfl rfl (op_and rfl (ev1 rfl) (ev3 rfl id)) ?_
  refine walk_r rfl rfl rfl (op_move (.inl rfl) (ev1 rfl)) ?_
  refine walk_gr (gd_t rfl rfl rfl) rfl rfl rfl (op_fa rfl fo27_2 (ev1 rfl)) ?_
  refine walk_gr (gd_t rfl rfl rfl) rfl rfl rfl (op_ldo rfl tb25 (ev2 rfl) rfl rfl) ?_
  refine walk_gr (gd_t rfl rfl rfl) rfl rfl rfl (op_geq rfl (ev2 rfl) (ev1 rfl)) ?_
  refine walk_r rfl rfl rfl (op_and rfl (ev1 rfl) (ev3 rfl id)) ?_
  refine walk_r rfl rfl rfl (op_move (.inl rfl) (ev1 rfl)) ?_
  refine walk_gr (gd_t rfl rfl rfl) rfl rfl rfl (op_fa rfl fo27_2 (ev1 rfl)) ?_
  refine walk_gr (gd_t rfl rfl rfl) rfl rfl rfl (op_ldo rfl tb25 (ev2 rfl) rfl rfl) ?_
  refine walk_gr (gd_t rfl rfl rfl) rfl rfl rfl (op_leq rfl (ev2 rfl) (ev1 rfl)) ?_
  refine walk_r rfl rfl rfl (op_and rfl (ev1 rfl) (ev3 rfl id)) ?_
  refine walk_r rfl rfl rfl (op_move (.inr rfl) (ev1 rfl)) ?_
  refine walk_nil ?_
  refine dwp_ret ?_
  refine kend0 (rs1 rfl (rv_t rfl)) rfl ?_
  simp [mayR, isNum, Bool.and_assoc]
set_option maxRecDepth 4000 in
set_option maxHeartbeats 1000000 in
theorem isNaN_u64 (n : Int) : DFun Tryd.prog 54 [.val (.int .u64 n)] [] (.val (.bool false)) [] := by
  refine dcalls_go (N := 6) 0 (by kernel_rfl) Tryd.func54 rfl rfl rfl (by simp only [fr0, Nat.zero_add, Nat.reduceAdd]; exact rfl) rfl fun s0 hs0 => ?_
  refine dwp_seq ?_
  refine dwp_region ?_
  refine walk_r rfl rfl rfl (op_move (.inr rfl) (ev1 rfl)) ?_
  refine walk_nil ?_
  refine dwp_seq ?_
  refine dwp_region ?_
  refine walk_r rfl rfl rfl (op_move (.inl rfl) (ev1 rfl)) ?_
  refine walk_r rfl rfl rfl (op_move (.inl rfl) (ev1 rfl)) ?_
  refine walk_r rfl rfl rfl (op_neq rfl (ev1 rfl) (ev1 rfl)) ?_
  refine walk_r rfl rfl rfl (op_move (.inr rfl) (ev1 rfl)) ?_
  refine walk_nil ?_
  refine dwp_ret ?_
  refine kend0 (rs1 rfl (rv_t rfl)) rfl ?_
  simp
set_option maxRecDepth 4000 in
set_option maxHeartbeats 1000000 in
theorem cmp_u64 (x y : Int) : DFun Tryd.prog 38 [.val (.int .u64 x), .val (.int .u64 y)] [] (.val (.int .i64 (cmpI x y))) [] := by
  refine dcalls_go (N := 20) 0 (by kernel_rfl) Tryd.func38 rfl rfl rfl (by simp only [fr0, Nat.zero_add, Nat.reduceAdd]; exact rfl) rfl fun s0 hs0 => ?_
  refine dwp_seq ?_
  refine dwp_region ?_
  refine walk_r rfl rfl rfl (op_move (.inr rfl) (ev1 rfl)) ?_
  refine walk_nil ?_
  refine dwp_seq ?_
  refine dwp_region ?_
  refine walk_r rfl rfl rfl (op_move (.inl rfl) (ev1 rfl)) ?_
  refine walk_r rfl rfl rfl (dop_call [] [] [] rfl (ev1 rfl) (ec (ev1 rfl) en) rfl rfl (isNaN_u64 _) rfl rfl rfl rfl rfl rfl) ?_
  refine walk_r rfl rfl rfl (op_move (.inr rfl) (ev1 rfl)) ?_
  refine walk_nil ?_
  refine dwp_seq ?_
  refine dwp_region ?_
  refine walk_r rfl rfl rfl (op_move (.inl rfl) (ev1 rfl)) ?_
  refine walk_r rfl rfl rfl (dop_call [] [] [] rfl (ev1 rfl) (ec (ev1 rfl) en) rfl rfl (isNaN_u64 _) rfl rfl rfl rfl rfl rfl) ?_
  refine walk_r rfl rfl rfl (op_move (.inr rfl) (ev1 rfl)) ?_
  refine walk_nil ?_
  refine dwp_seq ?_
  refine dwp_seq ?_
  refine dwp_region ?_
  refine walk_r rfl rfl rfl (op_move (.inl rfl) (ev1 rfl)) ?_
  refine walk_nil ?_
  refine dwp_if_f rfl (rfl) ?_
  refine dwp_skip ?_
  refine dwp_seq ?_
  refine dwp_seq ?_
  refine dwp_region ?_
  refine walk_r rfl rfl rfl (op_move (.inl rfl) (ev1 rfl)) ?_
  refine walk_nil ?_
  refine dwp_if_f rfl (rfl) ?_
  refine dwp_skip ?_
  refine dwp_seq ?_
  refine dwp_seq ?_
  refine dwp_region ?_
  refine walk_r rfl rfl rfl (op_move (.inl rfl) (ev1 rfl)) ?_
  refine walk_r rfl rfl rfl (op_move (.inl rfl) (ev1 rfl)) ?_
  refine walk_r rfl rfl rfl (op_lss rfl (ev1 rfl) (ev1 rfl)) ?_
  refine walk_nil ?_
  refine dwp_cond rfl (fun c3 => ?_) (fun c3 => ?_)
  · try simp only [decide_eq_true_eq, decide_eq_false_iff_not, beq_iff_eq, bne_iff_ne, beq_eq_false_iff_ne, bne_eq_false_iff_eq, Bool.not_eq_true', Bool.not_eq_false', Bool.and_eq_true, Bool.or_eq_true, Bool.or_eq_false_iff, ne_eq, Decidable.not_not, Int.not_lt, Int.not_le] at c3
    refine dwp_seq ?_
    refine dwp_region ?_
    refine walk_r rfl rfl rfl (op_move (.inr rfl) (ev1 rfl)) ?_
    refine walk_nil ?_
    refine dwp_ret ?_
    refine kend0 (rs1 rfl (rv_t rfl)) rfl ?_
    simp_all [cmpI]; try omega
  · try simp only [decide_eq_true_eq, decide_eq_false_iff_not, beq_iff_eq, bne_iff_ne, beq_eq_false_iff_ne, bne_eq_false_iff_eq, Bool.not_eq_true', Bool.not_eq_false', Bool.and_eq_true, Bool.or_eq_true, Bool.or_eq_false_iff, ne_eq, Decidable.not_not, Int.not_lt, Int.not_le] at c3
    refine dwp_skip ?_
    refine dwp_seq ?_
    refine dwp_seq ?_
    refine dwp_region ?_
    refine walk_r rfl rfl rfl (op_move (.inl rfl) (ev1 rfl)) ?_
    refine walk_r rfl rfl rfl (op_move (.inl rfl) (ev1 rfl)) ?_
    refine walk_r rfl rfl rfl (op_gtr rfl (ev1 rfl) (ev1 rfl)) ?_
    refine walk_nil ?_
    refine dwp_cond rfl (fun c4 => ?_) (fun c4 => ?_)
    · try simp only [decide_eq_true_eq, decide_eq_false_iff_not, beq_iff_eq, bne_iff_ne, beq_eq_false_iff_ne, bne_eq_false_iff_eq, Bool.not_eq_true', Bool.not_eq_false', Bool.and_eq_true, Bool.or_eq_true, Bool.or_eq_false_iff, ne_eq, Decidable.not_not, Int.not_lt, Int.not_le] at c4
      refine dwp_seq ?_
      refine dwp_region ?_
      refine walk_r rfl rfl rfl (op_move (.inr rfl) (ev1 rfl)) ?_
      refine walk_nil ?_
      refine dwp_ret ?_
      refine kend0 (rs1 rfl (rv_t rfl)) rfl ?_
      simp_all [cmpI]; try omega
    · try simp only [decide_eq_true_eq, decide_eq_false_iff_not, beq_iff_eq, bne_iff_ne, beq_eq_false_iff_ne, bne_eq_false_iff_eq, Bool.not_eq_true', Bool.not_eq_false', Bool.and_eq_true, Bool.or_eq_true, Bool.or_eq_false_iff, ne_eq, Decidable.not_not, Int.not_lt, Int.not_le] at c4
      refine dwp_skip ?_
      refine dwp_seq ?_
      refine dwp_region ?_
      refine walk_r rfl rfl rfl (op_move (.inr rfl) (ev1 rfl)) ?_
      refine walk_nil ?_
      refine dwp_ret ?_
      refine kend0 (rs1 rfl (rv_t rfl)) rfl ?_
      simp_all [cmpI]; try omega
set_option maxRecDepth 4000 in
set_option maxHeartbeats 1000000 in
theorem isNaN_i64 (n : Int) : DFun Tryd.prog 55 [.val (.int .i64 n)] [] (.val (.bool false)) [] := by
  refine dcalls_go (N := 6) 0 (by kernel_rfl) Tryd.func55 rfl rfl rfl (by simp only [fr0, Nat.zero_add, Nat.reduceAdd]; exact rfl) rfl fun s0 hs0 => ?_
  refine dwp_seq ?_
  refine dwp_region ?_
  refine walk_r rfl rfl rfl (op_move (.inr rfl) (ev1 rfl)) ?_
  refine walk_nil ?_
  refine dwp_seq ?_
  refine dwp_region ?_
  refine walk_r rfl rfl rfl (op_move (.inl rfl) (ev1 rfl)) ?_
  refine walk_r rfl rfl rfl (op_move (.inl rfl) (ev1 rfl)) ?_
  refine walk_r rfl rfl rfl (op_neq rfl (ev1 rfl) (ev1 rfl)) ?_
  refine walk_r rfl rfl rfl (op_move (.inr rfl) (ev1 rfl)) ?_
  refine walk_nil ?_
  refine dwp_ret ?_
  refine kend0 (rs1 rfl (rv_t rfl)) rfl ?_
  simp
set_option maxRecDepth 4000 in
set_option maxHeartbeats 1000000 in
theorem cmp_i64 (x y : Int) : DFun Tryd.prog 39 [.val (.int .i64 x), .val (.int .i64 y)] [] (.val (.int .i64 (cmpI x y))) [] := by
  refine dcalls_go (N := 20) 0 (by kernel_rfl) Tryd.func39 rfl rfl rfl (by simp only [fr0, Nat.zero_add, Nat.reduceAdd]; exact rfl) rfl fun s0 hs0 => ?_
  refine dwp_seq ?_
  refine dwp_region ?_
  refine walk_r rfl rfl rfl (op_move (.inr rfl) (ev1 rfl)) ?_
  refine walk_nil ?_
  refine dwp_seq ?_
  refine dwp_region ?_
  refine walk_r rfl rfl rfl (op_move (.inl rfl) (ev1 rfl)) ?_
  refine walk_r rfl rfl rfl (dop_call [] [] [] rfl (ev1 rfl) (ec (ev1 rfl) en) rfl rfl (isNaN_i64 _) rfl rfl rfl rfl rfl rfl) ?_
  refine walk_r rfl rfl rfl (op_move (.inr rfl) (ev1 rfl)) ?_
  refine walk_nil ?_
  refine dwp_seq ?_
  refine dwp_region ?_
  refine walk_r rfl rfl rfl (op_move (.inl rfl) (ev1 rfl)) ?_
  refine walk_r rfl rfl rfl (dop_call [] [] [] rfl (ev1 rfl) (ec (ev1 rfl) en) rfl rfl (isNaN_i64 _) rfl rfl rfl rfl rfl rfl) ?_
  refine walk_r rfl rfl rfl (op_move (.inr rfl) (ev1 rfl)) ?_
  refine walk_nil ?_
  refine dwp_seq ?_
  refine dwp_seq ?_
  refine dwp_region ?_
  refine walk_r rfl rfl rfl (op_move (.inl rfl) (ev1 rfl)) ?_
  refine walk_nil ?_
  refine dwp_if_f rfl (rfl) ?_
  refine dwp_skip ?_
  refine dwp_seq ?_
  refine dwp_seq ?_
  refine dwp_region ?_
  refine walk_r rfl rfl rfl (op_move (.inl rfl) (ev1 rfl)) ?_
  refine walk_nil ?_
  refine dwp_if_f rfl (rfl) ?_
  refine dwp_skip ?_
  refine dwp_seq ?_
  refine dwp_seq ?_
  refine dwp_region ?_
  refine walk_r rfl rfl rfl (op_move (.inl rfl) (ev1 rfl)) ?_
  refine walk_r rfl rfl rfl (op_move (.inl rfl) (ev1 rfl)) ?_
  refine walk_r rfl rfl rfl (op_lss rfl (ev1 rfl) (ev1 rfl)) ?_
  refine walk_nil ?_
  refine dwp_cond rfl (fun c3 => ?_) (fun c3 => ?_)
  · try simp only [decide_eq_true_eq, decide_eq_false_iff_not, beq_iff_eq, bne_iff_ne, beq_eq_false_iff_ne, bne_eq_false_iff_eq, Bool.not_eq_true', Bool.not_eq_false', Bool.and_eq_true, Bool.or_eq_true, Bool.or_eq_false_iff, ne_eq, Decidable.not_not, Int.not_lt, Int.not_le] at c3
    refine dwp_seq ?_
    refine dwp_region ?_
    refine walk_r rfl rfl rfl (op_move (.inr rfl) (ev1 rfl)) ?_
    refine walk_nil ?_
    refine dwp_ret ?_
    refine kend0 (rs1 rfl (rv_t rfl)) rfl ?_
    simp_all [cmpI]; try omega
  · try simp only [decide_eq_true_eq, decide_eq_false_iff_not, beq_iff_eq, bne_iff_ne, beq_eq_false_iff_ne, bne_eq_false_iff_eq, Bool.not_eq_true', Bool.not_eq_false', Bool.and_eq_true, Bool.or_eq_true, Bool.or_eq_false_iff, ne_eq, Decidable.not_not, Int.not_lt, Int.not_le] at c3
    refine dwp_skip ?_
    refine dwp_seq ?_
    refine dwp_seq ?_
    refine dwp_region ?_
    refine walk_r rfl rfl rfl (op_move (.inl rfl) (ev1 rfl)) ?_
    refine walk_r rfl rfl rfl (op_move (.inl rfl) (ev1 rfl)) ?_
    refine walk_r rfl rfl rfl (op_gtr rfl (ev1 rfl) (ev1 rfl)) ?_
    refine walk_nil ?_
    refine dwp_cond rfl (fun c4 => ?_) (fun c4 => ?_)
    · try simp only [decide_eq_true_eq, decide_eq_false_iff_not, beq_iff_eq, bne_iff_ne, beq_eq_false_iff_ne, bne_eq_false_iff_eq, Bool.not_eq_true', Bool.not_eq_false', Bool.and_eq_true, Bool.or_eq_true, Bool.or_eq_false_iff, ne_eq, Decidable.not_not, Int.not_lt, Int.not_le] at c4
      refine dwp_seq ?_
      refine dwp_region ?_
      refine walk_r rfl rfl rfl (op_move (.inr rfl) (ev1 rfl)) ?_
      refine walk_nil ?_
      refine dwp_ret ?_
      refine kend0 (rs1 rfl (rv_t rfl)) rfl ?_
      simp_all [cmpI]; try omega
    · try simp only [decide_eq_true_eq, decide_eq_false_iff_not, beq_iff_eq, bne_iff_ne, beq_eq_false_iff_ne, bne_eq_false_iff_eq, Bool.not_eq_true', Bool.not_eq_false', Bool.and_eq_true, Bool.or_eq_true, Bool.or_eq_false_iff, ne_eq, Decidable.not_not, Int.not_lt, Int.not_le] at c4
      refine dwp_skip ?_
      refine dwp_seq ?_
      refine dwp_region ?_
      refine walk_r rfl rfl rfl (op_move (.inr rfl) (ev1 rfl)) ?_
      refine walk_nil ?_
      refine dwp_ret ?_
      refine kend0 (rs1 rfl (rv_t rfl)) rfl ?_
      simp_all [cmpI]; try omega
set_option maxRecDepth 4000 in
set_option maxHeartbeats 1000000 in
theorem or_d (l : List Int) : DFun Tryd.prog 37 [rowI l] [] (.val (.int .i64 (orL l))) [] := by
  refine dcalls_go (N := 18) 0 (by kernel_rfl) Tryd.func37 rfl rfl rfl (by simp only [fr0, Nat.zero_add, Nat.reduceAdd]; exact rfl) rfl fun s0 hs0 => ?_
  refine dwp_len (t := 0) rfl fun hl0 hL0 => ?_
  refine dwp_seq ?_
  refine dwp_region ?_
  refine walk_r rfl rfl rfl (op_move (.inr rfl) (ev1 rfl)) ?_
  refine walk_nil ?_
  refine dwp_seq ?_
  refine dwp_region ?_
  refine walk_r rfl rfl rfl (op_move (.inr rfl) (ev1 rfl)) ?_
  refine walk_nil ?_
  refine dwp_seq ?_
  refine dwp_seq ?_
  refine dwp_region ?_
  refine walk_r rfl rfl rfl (op_move (.inl rfl) (ev1 rfl)) ?_
  refine walk_r rfl rfl rfl (op_len rfl sl96 (ev1 rfl)) ?_
  refine walk_r rfl rfl rfl (op_move (.inl rfl) (ev1 rfl)) ?_
  refine walk_nil ?_
  refine dwp_block ?_
  refine dwp_loopS ⟨hs0, rfl⟩ (α := Nat) (fun k => [(8, .val (.int .i64 (k : Int)))]) [(3, _), (6, _), (7, _)] (fun k => []) [] (fun k => k ≤ l.length ∧ orL l = orL (l.drop k)) (fun k => l.length - k) 0 [] (by simp) rfl ⟨rfl, rfl, rfl, trivial⟩ ⟨rfl, trivial⟩ trivial ?_
  intro k hx
  simp only [upd, List.set_cons_zero, List.set_cons_succ, List.cons_append, List.nil_append]
  obtain ⟨hk, he⟩ := hx
  refine dwp_seq ?_
  refine dwp_region ?_
  refine walk_r rfl rfl rfl (op_lss rfl (ev1 rfl) (ev1 rfl)) ?_
  refine walk_nil ?_
  refine dwp_seq ?_
  refine dwp_cond rfl (fun c1 => ?_) (fun c1 => ?_)
  · try simp only [decide_eq_true_eq, decide_eq_false_iff_not, beq_iff_eq, bne_iff_ne, beq_eq_false_iff_ne, bne_eq_false_iff_eq, Bool.not_eq_true', Bool.not_eq_false', Bool.and_eq_true, Bool.or_eq_true, Bool.or_eq_false_iff, ne_eq, Decidable.not_not, Int.not_lt, Int.not_le] at c1
    refine dwp_skip ?_
    refine dwp_seq ?_
    refine dwp_block ?_
    refine dwp_seq ?_
    refine dwp_region ?_
    refine walk_r rfl rfl rfl (op_ixsr rfl sl96 (ev1 rfl) (ev1 rfl) (fun _ => rfl) (by decide) rfl (by omega)) ?_
    refine walk_r rfl rfl rfl (op_ldod rfl tb3 (ev1 rfl) rfl) ?_
    refine walk_r rfl rfl rfl (op_move (.inr rfl) (ev1 rfl)) ?_
    refine walk_nil ?_
    refine dwp_seq ?_
    refine dwp_region ?_
    refine walk_r rfl rfl rfl (op_move (.inl rfl) (ev1 rfl)) ?_
    refine walk_r rfl rfl rfl (op_move (.inl rfl) (ev1 rfl)) ?_
    refine walk_r rfl rfl rfl (op_neq rfl (ev1 rfl) (ev1 rfl)) ?_
    refine walk_nil ?_
    refine dwp_cond rfl (fun c2 => ?_) (fun c2 => ?_)
    · try simp only [decide_eq_true_eq, decide_eq_false_iff_not, beq_iff_eq, bne_iff_ne, beq_eq_false_iff_ne, bne_eq_false_iff_eq, Bool.not_eq_true', Bool.not_eq_false', Bool.and_eq_true, Bool.or_eq_true, Bool.or_eq_false_iff, ne_eq, Decidable.not_not, Int.not_lt, Int.not_le] at c2
      refine dwp_seq ?_
      refine dwp_region ?_
      refine walk_r rfl rfl rfl (op_move (.inl rfl) (ev1 rfl)) ?_
      refine walk_r rfl rfl rfl (op_move (.inr rfl) (ev1 rfl)) ?_
      refine walk_nil ?_
      refine dwp_ret ?_
      refine kend0 (rs1 rfl (rv_t rfl)) rfl ?_
      rw [he, orL_drop (by omega)]; simp_all
    · try simp only [decide_eq_true_eq, decide_eq_false_iff_not, beq_iff_eq, bne_iff_ne, beq_eq_false_iff_ne, bne_eq_false_iff_eq, Bool.not_eq_true', Bool.not_eq_false', Bool.and_eq_true, Bool.or_eq_true, Bool.or_eq_false_iff, ne_eq, Decidable.not_not, Int.not_lt, Int.not_le] at c2
      refine dwp_skip ?_
      refine dwp_region ?_
      refine walk_r rfl rfl rfl (op_add' rfl (ev1 rfl) (ev1 rfl) (fun _ => IntWalk.i64_in _ (by omega))) ?_
      refine walk_r rfl rfl rfl (op_move (.inl rfl) (ev1 rfl)) ?_
      refine walk_nil ?_
      refine ⟨k + 1, [], ⟨by omega, by rw [he, orL_drop (by omega)]; simp_all⟩, by simp only []; omega, rfl, ⟨rfl, rfl, rfl, rfl, trivial⟩, trivial⟩
  · try simp only [decide_eq_true_eq, decide_eq_false_iff_not, beq_iff_eq, bne_iff_ne, beq_eq_false_iff_ne, bne_eq_false_iff_eq, Bool.not_eq_true', Bool.not_eq_false', Bool.and_eq_true, Bool.or_eq_true, Bool.or_eq_false_iff, ne_eq, Decidable.not_not, Int.not_lt, Int.not_le] at c1
    refine dwp_exit ?_
    refine dwp_seq ?_
    refine dwp_region ?_
    refine walk_r rfl rfl rfl (op_move (.inl rfl) (ev1 rfl)) ?_
    refine walk_r rfl rfl rfl (op_move (.inr rfl) (ev1 rfl)) ?_
    refine walk_nil ?_
    refine dwp_ret ?_
    refine kend0 (rs1 rfl (rv_t rfl)) rfl ?_
    rw [he, List.drop_of_length_le (by omega)]; rfl
end Go.Proofs.YtaekkjhpdendoaaDoor

namespace Go.Proofs.YtaekkjhpdendoaaDoor
set_option linter.unusedVariables false
set_option linter.unusedSimpArgs false
open Go.RowKit
set_option maxRecDepth 4000 in
set_option maxHeartbeats 1000000 in
theorem compare_d (a b : I3) : DFun Tryd.prog 14 [idD a, idD b] [] (.val (.int .i64 (cmpR a b))) [] := by
  refine dcalls_go (N := 25) 0 (by kernel_rfl) Tryd.func14 rfl rfl rfl (by simp only [fr0, Nat.zero_add, Nat.reduceAdd]; exact rfl) rfl fun s0 hs0 => ?_
  refine dwp_seq ?_
  refine dwp_holes 2 (by simp only [holes, List.cons_append, List.nil_append]; exact rfl) ?_
  refine dwp_region ?_
  refine walk_w rfl rfl rfl (op_boxa 0 rfl (ev1 rfl) rfl) (by simp only [upd, List.set_cons_zero, List.set_cons_succ]; exact rfl) ?_
  refine walk_w rfl rfl rfl (op_boxa 1 rfl (ev1 rfl) rfl) (by simp only [upd, List.set_cons_zero, List.set_cons_succ]; exact rfl) ?_
  refine walk_r rfl rfl rfl (op_move (.inr rfl) (ev1 rfl)) ?_
  refine walk_nil ?_
  refine dwp_seq ?_
  refine dwp_seq ?_
  refine dwp_region ?_
  refine walk_r rfl rfl rfl (op_ldw rfl tb27 (ev1 rfl) rfl rfl) ?_
  refine walk_r rfl rfl rfl (op_ldw rfl tb27 (ev1 rfl) rfl rfl) ?_
  refine walk_r rfl rfl rfl (op_eqr eq27 rfl gd27 tb27 (ev1 rfl) (ev1 rfl)) ?_
  refine walk_nil ?_
  refine dwp_cond rfl (fun c1 => ?_) (fun c1 => ?_)
  · try simp only [decide_eq_true_eq, decide_eq_false_iff_not, beq_iff_eq, bne_iff_ne, beq_eq_false_iff_ne, bne_eq_false_iff_eq, Bool.not_eq_true', Bool.not_eq_false', Bool.and_eq_true, Bool.or_eq_true, Bool.or_eq_false_iff, ne_eq, Decidable.not_not, Int.not_lt, Int.not_le] at c1
    refine dwp_seq ?_
    refine dwp_region ?_
    refine walk_r rfl rfl rfl (op_move (.inr rfl) (ev1 rfl)) ?_
    refine walk_nil ?_
    refine dwp_ret ?_
    refine kend0 (rs1 rfl (rv_t rfl)) rfl ?_
    simp_all [cmpR, eqI]
  · try simp only [decide_eq_true_eq, decide_eq_false_iff_not, beq_iff_eq, bne_iff_ne, beq_eq_false_iff_ne, bne_eq_false_iff_eq, Bool.not_eq_true', Bool.not_eq_false', Bool.and_eq_true, Bool.or_eq_true, Bool.or_eq_false_iff, ne_eq, Decidable.not_not, Int.not_lt, Int.not_le] at c1
    refine dwp_skip ?_
    refine dwp_seq ?_
    refine dwp_draw [([], []), ([0], []), ([], []), ([1], []), ([], []), ([], []), ([0], []), ([], []), ([1], []), ([], []), ([], []), ([0], []), ([], []), ([1], []), ([], []), ([], []), ([], []), ([], [])] mixed (by kernel_rfl) ?_
    refine lex_r rfl rfl (op_fa rfl fo27_0 (ev1 rfl)) ?_
    refine lex_r rfl rfl (op_ldo rfl tb25 (ev1 rfl) rfl rfl) ?_
    refine lex_r rfl rfl (op_fa rfl fo27_0 (ev1 rfl)) ?_
    refine lex_r rfl rfl (op_ldo rfl tb25 (ev1 rfl) rfl rfl) ?_
    refine lex_r rfl rfl (dop_call [] [] [] rfl (ev1 rfl) (ec (ev1 rfl) (ec (ev1 rfl) en)) rfl rfl (cmp_u64 _ _) rfl rfl rfl rfl rfl rfl) ?_
    refine lex_r rfl rfl (op_fa rfl fo27_1 (ev1 rfl)) ?_
    refine lex_r rfl rfl (op_ldo rfl tb3 (ev1 rfl) rfl rfl) ?_
    refine lex_r rfl rfl (op_fa rfl fo27_1 (ev1 rfl)) ?_
    refine lex_r rfl rfl (op_ldo rfl tb3 (ev1 rfl) rfl rfl) ?_
    refine lex_r rfl rfl (dop_call [] [] [] rfl (ev1 rfl) (ec (ev1 rfl) (ec (ev1 rfl) en)) rfl rfl (cmp_i64 _ _) rfl rfl rfl rfl rfl rfl) ?_
    refine lex_r rfl rfl (op_fa rfl fo27_2 (ev1 rfl)) ?_
    refine lex_r rfl rfl (op_ldo rfl tb25 (ev1 rfl) rfl rfl) ?_
    refine lex_r rfl rfl (op_fa rfl fo27_2 (ev1 rfl)) ?_
    refine lex_r rfl rfl (op_ldo rfl tb25 (ev1 rfl) rfl rfl) ?_
    refine lex_r rfl rfl (dop_call [] [] [] rfl (ev1 rfl) (ec (ev1 rfl) (ec (ev1 rfl) en)) rfl rfl (cmp_u64 _ _) rfl rfl rfl rfl rfl rfl) ?_
    refine lex_r rfl rfl (op_bs (ps := [(0, .tmp 12), (1, .tmp 17), (2, .tmp 22)]) rfl sl96 zr3 rfl (vc (ev1 rfl) (vc (ev1 rfl) (vc (ev1 rfl) vn))) rfl (by decide) (by decide)) ?_
    refine lex_r rfl rfl (dop_call [] [] [] rfl (ev1 rfl) (ec (ev1 rfl) en) rfl rfl (or_d [_, _, _]) rfl rfl rfl rfl rfl rfl) ?_
    refine lex_r rfl rfl (op_move (.inr rfl) (ev1 rfl)) ?_
    refine lex_nil ?_
    refine dwp_ret ?_
    refine kend0 (rs1 rfl (rv_t rfl)) rfl ?_
    simp_all [cmpR, eqI]
set_option maxRecDepth 4000 in
set_option maxHeartbeats 1000000 in
theorem lessC_d (a b : I3) : DFun Tryd.prog 15 [idD a, idD b] [] (.val (.bool (lessC a b))) [] := by
  refine dcalls_go (N := 9) 0 (by kernel_rfl) Tryd.func15 rfl rfl rfl (by simp only [fr0, Nat.zero_add, Nat.reduceAdd]; exact rfl) rfl fun s0 hs0 => ?_
  refine dwp_seq ?_
  refine dwp_holes 2 (by simp only [holes, List.cons_append, List.nil_append]; exact rfl) ?_
  refine dwp_region ?_
  refine walk_w rfl rfl rfl (op_boxa 0 rfl (ev1 rfl) rfl) (by simp only [upd, List.set_cons_zero, List.set_cons_succ]; exact rfl) ?_
  refine walk_w rfl rfl rfl (op_boxa 1 rfl (ev1 rfl) rfl) (by simp only [upd, List.set_cons_zero, List.set_cons_succ]; exact rfl) ?_
  refine walk_r rfl rfl rfl (op_move (.inr rfl) (ev1 rfl)) ?_
  refine walk_nil ?_
  refine dwp_seq ?_
  refine dwp_region ?_
  refine walk_r rfl rfl rfl (op_ldw rfl tb27 (ev1 rfl) rfl rfl) ?_
  refine walk_r rfl rfl rfl (op_ldw rfl tb27 (ev1 rfl) rfl rfl) ?_
  refine walk_r rfl rfl rfl (dop_call [] [] [] rfl (ev1 rfl) (ec (ev1 rfl) (ec (ev1 rfl) en)) rfl rfl (compare_d _ _) rfl rfl rfl rfl rfl rfl) ?_
  refine walk_r rfl rfl rfl (op_lss rfl (ev1 rfl) (ev1 rfl)) ?_
  refine walk_r rfl rfl rfl (op_move (.inr rfl) (ev1 rfl)) ?_
  refine walk_nil ?_
  refine dwp_ret ?_
  refine kend0 (rs1 rfl (rv_t rfl)) rfl ?_
  rfl
set_option maxRecDepth 4000 in
set_option maxHeartbeats 1000000 in
theorem sorted1_d (a b : I3) : DFun Tryd.prog 41 [idD a, idD b] [] (.val (.bool (lessC a b))) [] := by
  refine dcalls_go (N := 8) 0 (by kernel_rfl) Tryd.func41 rfl rfl rfl (by simp only [fr0, Nat.zero_add, Nat.reduceAdd]; exact rfl) rfl fun s0 hs0 => ?_
  refine dwp_seq ?_
  refine dwp_holes 2 (by simp only [holes, List.cons_append, List.nil_append]; exact rfl) ?_
  refine dwp_region ?_
  refine walk_w rfl rfl rfl (op_boxa 0 rfl (ev1 rfl) rfl) (by simp only [upd, List.set_cons_zero, List.set_cons_succ]; exact rfl) ?_
  refine walk_w rfl rfl rfl (op_boxa 1 rfl (ev1 rfl) rfl) (by simp only [upd, List.set_cons_zero, List.set_cons_succ]; exact rfl) ?_
  refine walk_r rfl rfl rfl (op_move (.inr rfl) (ev1 rfl)) ?_
  refine walk_nil ?_
  refine dwp_seq ?_
  refine dwp_region ?_
  refine walk_r rfl rfl rfl (op_ldw rfl tb27 (ev1 rfl) rfl rfl) ?_
  refine walk_r rfl rfl rfl (op_ldw rfl tb27 (ev1 rfl) rfl rfl) ?_
  refine walk_r rfl rfl rfl (dop_call [] [] [] rfl (ev1 rfl) (ec (ev1 rfl) (ec (ev1 rfl) en)) rfl rfl (lessC_d _ _) rfl rfl rfl rfl rfl rfl) ?_
  refine walk_r rfl rfl rfl (op_move (.inr rfl) (ev1 rfl)) ?_
  refine walk_nil ?_
  refine dwp_ret ?_
  refine kend0 (rs1 rfl (rv_t rfl)) rfl ?_
  rfl
set_option maxRecDepth 4000 in
set_option maxHeartbeats 1000000 in
theorem sgn_d (a b : I3) : DFun Tryd.prog 57 [idD a, idD b, .dpm [.fn (.func 41) [] []]] [] (.val (.int .i64 (sgnC a b))) [] := by
  refine dcalls_go (N := 16) 0 (by kernel_rfl) Tryd.func57 rfl rfl rfl (by simp only [fr0, Nat.zero_add, Nat.reduceAdd]; exact rfl) rfl fun s0 hs0 => ?_
  refine dwp_seq ?_
  refine dwp_holes 2 (by simp only [holes, List.cons_append, List.nil_append]; exact rfl) ?_
  refine dwp_region ?_
  refine walk_w rfl rfl rfl (op_boxa 0 rfl (ev1 rfl) rfl) (by simp only [upd, List.set_cons_zero, List.set_cons_succ]; exact rfl) ?_
  refine walk_w rfl rfl rfl (op_boxa 1 rfl (ev1 rfl) rfl) (by simp only [upd, List.set_cons_zero, List.set_cons_succ]; exact rfl) ?_
  refine walk_r rfl rfl rfl (op_move (.inr rfl) (ev1 rfl)) ?_
  refine walk_nil ?_
  refine dwp_seq ?_
  refine dwp_block ?_
  refine dwp_seq ?_
  refine dwp_region ?_
  refine walk_r rfl rfl rfl (op_lddm rfl tb31 (ev1 rfl) rfl) ?_
  refine walk_r rfl rfl rfl (op_ldw rfl tb27 (ev1 rfl) rfl rfl) ?_
  refine walk_r rfl rfl rfl (op_ldw rfl tb27 (ev1 rfl) rfl rfl) ?_
  refine walk_r rfl rfl rfl (dop_call [] [] [] rfl (ev1 rfl) (ec (ev1 rfl) (ec (ev1 rfl) en)) rfl rfl (sorted1_d _ _) rfl rfl rfl rfl rfl rfl) ?_
  refine walk_r rfl rfl rfl (op_move (.inr rfl) (ev1 rfl)) ?_
  refine walk_nil ?_
  refine dwp_cond rfl (fun c1 => ?_) (fun c1 => ?_)
  · try simp only [decide_eq_true_eq, decide_eq_false_iff_not, beq_iff_eq, bne_iff_ne, beq_eq_false_iff_ne, bne_eq_false_iff_eq, Bool.not_eq_true', Bool.not_eq_false', Bool.and_eq_true, Bool.or_eq_true, Bool.or_eq_false_iff, ne_eq, Decidable.not_not, Int.not_lt, Int.not_le] at c1
    refine dwp_seq ?_
    refine dwp_region ?_
    refine walk_r rfl rfl rfl (op_move (.inr rfl) (ev1 rfl)) ?_
    refine walk_nil ?_
    refine dwp_ret ?_
    refine kend0 (rs1 rfl (rv_t rfl)) rfl ?_
    simp_all [sgnC]
  · try simp only [decide_eq_true_eq, decide_eq_false_iff_not, beq_iff_eq, bne_iff_ne, beq_eq_false_iff_ne, bne_eq_false_iff_eq, Bool.not_eq_true', Bool.not_eq_false', Bool.and_eq_true, Bool.or_eq_true, Bool.or_eq_false_iff, ne_eq, Decidable.not_not, Int.not_lt, Int.not_le] at c1
    refine dwp_seq ?_
    refine dwp_region ?_
    refine walk_r rfl rfl rfl (op_lddm rfl tb31 (ev1 rfl) rfl) ?_
    refine walk_r rfl rfl rfl (op_ldw rfl tb27 (ev1 rfl) rfl rfl) ?_
    refine walk_r rfl rfl rfl (op_ldw rfl tb27 (ev1 rfl) rfl rfl) ?_
    refine walk_r rfl rfl rfl (dop_call [] [] [] rfl (ev1 rfl) (ec (ev1 rfl) (ec (ev1 rfl) en)) rfl rfl (sorted1_d _ _) rfl rfl rfl rfl rfl rfl) ?_
    refine walk_r rfl rfl rfl (op_move (.inr rfl) (ev1 rfl)) ?_
    refine walk_nil ?_
    refine dwp_cond rfl (fun c2 => ?_) (fun c2 => ?_)
    · try simp only [decide_eq_true_eq, decide_eq_false_iff_not, beq_iff_eq, bne_iff_ne, beq_eq_false_iff_ne, bne_eq_false_iff_eq, Bool.not_eq_true', Bool.not_eq_false', Bool.and_eq_true, Bool.or_eq_true, Bool.or_eq_false_iff, ne_eq, Decidable.not_not, Int.not_lt, Int.not_le] at c2
      refine dwp_seq ?_
      refine dwp_region ?_
      refine walk_r rfl rfl rfl (op_move (.inr rfl) (ev1 rfl)) ?_
      refine walk_nil ?_
      refine dwp_ret ?_
      refine kend0 (rs1 rfl (rv_t rfl)) rfl ?_
      simp_all [sgnC]
    · try simp only [decide_eq_true_eq, decide_eq_false_iff_not, beq_iff_eq, bne_iff_ne, beq_eq_false_iff_ne, bne_eq_false_iff_eq, Bool.not_eq_true', Bool.not_eq_false', Bool.and_eq_true, Bool.or_eq_true, Bool.or_eq_false_iff, ne_eq, Decidable.not_not, Int.not_lt, Int.not_le] at c2
      refine dwp_skip ?_
      refine dwp_seq ?_
      refine dwp_region ?_
      refine walk_r rfl rfl rfl (op_move (.inr rfl) (ev1 rfl)) ?_
      refine walk_nil ?_
      refine dwp_ret ?_
      refine kend0 (rs1 rfl (rv_t rfl)) rfl ?_
      simp_all [sgnC]
set_option maxRecDepth 4000 in
set_option maxHeartbeats 1000000 in
theorem insertion_d (l : List I3) : DFun Tryd.prog 69 [.arr 0, .val (.int .i64 0), .val (.int .i64 (l.length : Int)), .fn (.func 57) [] [.dpm [.fn (.func 41) [] []]]] [.arr 27 3 l.length ((l).flatMap idc)] (.tup []) [.arr 27 3 l.length ((isortC l).flatMap idc)] := by
  refine dcalls_go (N := 53) 1 (by kernel_rfl) Tryd.func69 rfl rfl rfl (by simp only [fr0, Nat.zero_add, Nat.reduceAdd]; exact rfl) rfl fun s0 hs0 => ?_
  refine dwp_lena (i := 0) rfl fun hl0 hL0 => ?_
  refine dwp_seq ?_
  refine dwp_region ?_
  refine walk_r rfl rfl rfl (op_move (.inl rfl) (ev1 rfl)) ?_
  refine walk_r rfl rfl rfl (op_add' rfl (ev1 rfl) (ev1 rfl) (fun _ => rfl)) ?_
  refine walk_r rfl rfl rfl (op_move (.inr rfl) (ev1 rfl)) ?_
  refine walk_nil ?_
  refine dwp_block ?_
  refine dwp_loopS ⟨hs0, rfl⟩ (α := Nat × List I3) (fun x => [(8, .val (.int .i64 (x.1 : Int)))]) [(0, _), (1, _), (2, _), (3, _)] (fun x => [(0, .arr 27 3 l.length ((x.2).flatMap idc))]) [.hole] (fun x => 1 ≤ x.1 ∧ x.2.length = l.length ∧ srt (l.length - x.1) x.1 x.2 = isortC l) (fun x => l.length - x.1) (1, l) [0] (⟨by omega, rfl, rfl⟩) rfl ⟨rfl, rfl, rfl, rfl, trivial⟩ ⟨rfl, trivial⟩ ⟨rfl, trivial⟩ ?_
  intro x hx
  simp only [upd, List.set_cons_zero, List.set_cons_succ, List.cons_append, List.nil_append]
  obtain ⟨i, l1⟩ := x
  obtain ⟨h1, h2, h3⟩ := hx
  dsimp only at h1 h2 h3 ⊢
  refine dwp_seq ?_
  refine dwp_seq ?_
  refine dwp_region ?_
  refine walk_r rfl rfl rfl (op_move (.inl rfl) (ev1 rfl)) ?_
  refine walk_r rfl rfl rfl (op_move (.inl rfl) (ev1 rfl)) ?_
  refine walk_r rfl rfl rfl (op_lss rfl (ev1 rfl) (ev1 rfl)) ?_
  refine walk_nil ?_
  refine dwp_cond rfl (fun c1 => ?_) (fun c1 => ?_)
  · try simp only [decide_eq_true_eq, decide_eq_false_iff_not, beq_iff_eq, bne_iff_ne, beq_eq_false_iff_ne, bne_eq_false_iff_eq, Bool.not_eq_true', Bool.not_eq_false', Bool.and_eq_true, Bool.or_eq_true, Bool.or_eq_false_iff, ne_eq, Decidable.not_not, Int.not_lt, Int.not_le] at c1
    refine dwp_skip ?_
    refine dwp_seq ?_
    refine dwp_block ?_
    refine dwp_seq ?_
    refine dwp_region ?_
    refine walk_r rfl rfl rfl (op_move (.inl rfl) (ev1 rfl)) ?_
    refine walk_r rfl rfl rfl (op_move (.inr rfl) (ev1 rfl)) ?_
    refine walk_nil ?_
    refine dwp_block ?_
    refine dwp_loopS ⟨hs0, rfl⟩ (α := Nat × List I3) (fun y => [(9, .val (.int .i64 (y.1 : Int)))]) [(0, _), (1, _), (2, _), (3, _), (8, _)] (fun y => [(0, .arr 27 3 l.length ((y.2).flatMap idc))]) [.hole] (fun y => y.1 < y.2.length ∧ y.2.length = l.length ∧ sink y.1 y.2 = sink i l1) (fun y => y.1) (i, l1) [0] (⟨by dsimp only; omega, h2, rfl⟩) rfl ⟨rfl, rfl, rfl, rfl, rfl, trivial⟩ ⟨rfl, trivial⟩ ⟨rfl, trivial⟩ ?_
    intro y hx
    simp only [upd, List.set_cons_zero, List.set_cons_succ, List.cons_append, List.nil_append]
    obtain ⟨j, l2⟩ := y
    obtain ⟨g1, g2, g3⟩ := hx
    dsimp only at g1 g2 g3 ⊢
    refine dwp_seq ?_
    refine dwp_seq ?_
    refine dwp_draw [([], []), ([], []), ([], []), ([], []), ([], []), ([], []), ([], []), ([0], []), ([0], []), ([], []), ([], []), ([], []), ([0], []), ([0], []), ([], []), ([], []), ([], [])] mixed (by kernel_rfl) ?_
    refine lex_r rfl rfl (op_move (.inl rfl) (ev1 rfl)) ?_
    refine lex_r rfl rfl (op_move (.inl rfl) (ev1 rfl)) ?_
    refine lex_r rfl rfl (op_gtr rfl (ev1 rfl) (ev1 rfl)) ?_
    refine lex_r rfl rfl (op_move (.inl rfl) (ev1 rfl)) ?_
    refine lex_gr (gd_t rfl rfl rfl) rfl rfl (op_move (.inl rfl) (ev1 rfl)) ?_
    refine lex_gr (gd_t rfl rfl rfl) rfl rfl (op_move (.inl rfl) (ev1 rfl)) ?_
    refine lex_gr (gd_t rfl rfl rfl) rfl rfl (op_move (.inl rfl) (ev1 rfl)) ?_
    refine lex_gr (gd_t rfl rfl rfl) rfl rfl (op_ixar (j := j) rfl sl22 (ev2 rfl) (ev2 rfl) rfl (fun hp => by first | rfl | omega | (simp at hp; omega)) (fun hp => by first | omega | (simp at hp; omega))) ?_
    refine lex_gr (gd_t rfl rfl rfl) rfl rfl (op_ldar rfl tb27 (ev2 rfl) rfl (fun _ => rfl) (by omega)) ?_
    refine lex_gr (gd_t rfl rfl rfl) rfl rfl (op_move (.inl rfl) (ev1 rfl)) ?_
    refine lex_gr (gd_t rfl rfl rfl) rfl rfl (op_move (.inl rfl) (ev1 rfl)) ?_
    refine lex_gr (gd_t rfl rfl rfl) rfl rfl (op_sub' rfl (ev2 rfl) (ev1 rfl) (fun hp => IntWalk.i64_in _ (by first | omega | (simp at hp; omega)))) ?_
    refine lex_gr (gd_t rfl rfl rfl) rfl rfl (op_ixar (j := j - 1) rfl sl22 (ev2 rfl) (ev2 rfl) rfl (fun hp => by first | rfl | omega | (simp at hp; omega)) (fun hp => by first | omega | (simp at hp; omega))) ?_
    refine lex_gr (gd_t rfl rfl rfl) rfl rfl (op_ldar rfl tb27 (ev2 rfl) rfl (fun _ => rfl) (by omega)) ?_
    refine lex_gr (gd_t rfl rfl rfl) rfl rfl (dop_call [] [] [] rfl (ev2 rfl) (ec (ev2 rfl) (ec (ev2 rfl) en)) rfl rfl (sgn_d _ _) rfl rfl rfl rfl rfl rfl) ?_
    refine lex_gr (gd_t rfl rfl rfl) rfl rfl (op_lss rfl (ev2 rfl) (ev1 rfl)) ?_
    refine lex_r rfl rfl (op_and rfl (ev1 rfl) (ev3 rfl id)) ?_
    refine lex_nil ?_
    refine dwp_cond rfl (fun c2 => ?_) (fun c2 => ?_)
    · try simp only [decide_eq_true_eq, decide_eq_false_iff_not, beq_iff_eq, bne_iff_ne, beq_eq_false_iff_ne, bne_eq_false_iff_eq, Bool.not_eq_true', Bool.not_eq_false', Bool.and_eq_true, Bool.or_eq_true, Bool.or_eq_false_iff, ne_eq, Decidable.not_not, Int.not_lt, Int.not_le] at c2
      refine dwp_skip ?_
      refine dwp_seq ?_
      refine dwp_block ?_
      refine dwp_draw [([], []), ([], []), ([], []), ([], []), ([], []), ([], []), ([], []), ([], []), ([0], []), ([0], []), ([], []), ([], []), ([0], []), ([0], []), ([0], []), ([0], [0]), ([0], []), ([0], [0])] mixed (by kernel_rfl) ?_
      refine lex_r rfl rfl (op_move (.inl rfl) (ev1 rfl)) ?_
      refine lex_r rfl rfl (op_move (.inl rfl) (ev1 rfl)) ?_
      refine lex_r rfl rfl (op_move (.inl rfl) (ev1 rfl)) ?_
      refine lex_r rfl rfl (op_move (.inl rfl) (ev1 rfl)) ?_
      refine lex_r rfl rfl (op_sub' rfl (ev1 rfl) (ev1 rfl) (fun _ => IntWalk.i64_in _ (by omega))) ?_
      refine lex_r rfl rfl (op_move (.inl rfl) (ev1 rfl)) ?_
      refine lex_r rfl rfl (op_move (.inl rfl) (ev1 rfl)) ?_
      refine lex_r rfl rfl (op_sub' rfl (ev1 rfl) (ev1 rfl) (fun _ => IntWalk.i64_in _ (by omega))) ?_
      refine lex_r rfl rfl (op_ixar (j := j - 1) rfl sl22 (ev1 rfl) (ev1 rfl) rfl (fun _ => by first | rfl | omega) (fun _ => by omega)) ?_
      refine lex_r rfl rfl (op_ldar rfl tb27 (ev1 rfl) rfl (fun _ => rfl) (by omega)) ?_
      refine lex_r rfl rfl (op_move (.inl rfl) (ev1 rfl)) ?_
      refine lex_r rfl rfl (op_move (.inl rfl) (ev1 rfl)) ?_
      refine lex_r rfl rfl (op_ixar rfl sl22 (ev1 rfl) (ev1 rfl) rfl (fun _ => by first | rfl | omega) (fun _ => by omega)) ?_
      refine lex_r rfl rfl (op_ldar rfl tb27 (ev1 rfl) rfl (fun _ => rfl) (by omega)) ?_
      refine lex_r rfl rfl (op_ixar rfl sl22 (ev1 rfl) (ev1 rfl) rfl (fun _ => by first | rfl | omega) (fun _ => by omega)) ?_
      refine lex_s rfl rfl (op_star rfl tb27 (ev1 rfl) rfl (ev1 rfl) (fun _ => rfl) (by first | omega | (simp only [List.length_set]; omega)) rfl) rfl (by simp only [upd, List.set_cons_zero, List.set_cons_succ]; exact rfl) ?_
      refine lex_r rfl rfl (op_ixar (j := j - 1) rfl sl22 (ev1 rfl) (ev1 rfl) rfl (fun _ => by first | rfl | omega) (fun _ => by omega)) ?_
      refine lex_s rfl rfl (op_star rfl tb27 (ev1 rfl) rfl (ev1 rfl) (fun _ => rfl) (by first | omega | (simp only [List.length_set]; omega)) rfl) rfl (by simp only [upd, List.set_cons_zero, List.set_cons_succ]; exact rfl) ?_
      refine lex_nil ?_
      refine dwp_region ?_
      refine walk_r rfl rfl rfl (op_move (.inl rfl) (ev1 rfl)) ?_
      refine walk_r rfl rfl rfl (op_sub' rfl (ev1 rfl) (ev1 rfl) (fun _ => IntWalk.i64_in _ (by omega))) ?_
      refine walk_r rfl rfl rfl (op_move (.inr rfl) (ev1 rfl)) ?_
      refine walk_nil ?_
      refine ⟨(j - 1, (l2.set j l2[j - 1]).set (j - 1) l2[j]), [0], ⟨by simp; omega, by simp [g2], by rw [← g3, sink_go (by omega) g1 c2.2]⟩, by simp only []; omega, rfl, ⟨by simp only [lk_cons]; simp [vw]; omega, rfl, rfl, rfl, rfl, rfl, trivial⟩, ⟨rfl, trivial⟩⟩
    · try simp only [decide_eq_true_eq, decide_eq_false_iff_not, beq_iff_eq, bne_iff_ne, beq_eq_false_iff_ne, bne_eq_false_iff_eq, Bool.not_eq_true', Bool.not_eq_false', Bool.and_eq_true, Bool.or_eq_true, Bool.or_eq_false_iff, ne_eq, Decidable.not_not, Int.not_lt, Int.not_le] at c2
      have e2 : l2 = sink i l1 := by
        rw [← g3, sink_stop]
        by_cases hj : 0 < j
        · exact .inr ⟨g1, by simp_all⟩
        · exact .inl hj
      subst e2
      refine dwp_exit ?_
      refine dwp_region ?_
      refine walk_r rfl rfl rfl (op_move (.inl rfl) (ev1 rfl)) ?_
      refine walk_r rfl rfl rfl (op_add' rfl (ev1 rfl) (ev1 rfl) (fun _ => IntWalk.i64_in _ (by omega))) ?_
      refine walk_r rfl rfl rfl (op_move (.inr rfl) (ev1 rfl)) ?_
      refine walk_nil ?_
      refine ⟨(i + 1, sink i l1), [0], ⟨by omega, (sink_len i l1).trans h2, by rw [← h3, show l.length - i = (l.length - (i + 1)) + 1 by omega, srt]⟩, by simp only []; omega, rfl, ⟨rfl, rfl, rfl, rfl, rfl, trivial⟩, ⟨rfl, trivial⟩⟩
  · try simp only [decide_eq_true_eq, decide_eq_false_iff_not, beq_iff_eq, bne_iff_ne, beq_eq_false_iff_ne, bne_eq_false_iff_eq, Bool.not_eq_true', Bool.not_eq_false', Bool.and_eq_true, Bool.or_eq_true, Bool.or_eq_false_iff, ne_eq, Decidable.not_not, Int.not_lt, Int.not_le] at c1
    have e1 : l1 = isortC l := by rw [← h3, show l.length - i = 0 by omega, srt]
    subst e1
    refine dwp_exit ?_
    refine kend [0] (res_none rfl) rfl rfl ?_ ⟨rfl, trivial⟩
    rfl
end Go.Proofs.YtaekkjhpdendoaaDoor

namespace Go.Proofs.YtaekkjhpdendoaaDoor
set_option linter.unusedVariables false
set_option linter.unusedSimpArgs false
open Go.RowKit
set_option maxRecDepth 4000 in
set_option maxHeartbeats 1000000 in
theorem cloneId (l : List I3) (h : l.length ≤ 5000) : DFun Tryd.prog 10 [.slf 3 l.length (l.flatMap idc)] [] (.arr 0) [.arr 27 3 l.length ((l).flatMap idc)] := by
  refine dcalls_go (N := 8) 0 (by kernel_rfl) Tryd.func10 rfl rfl rfl (by simp only [fr0, Nat.zero_add, Nat.reduceAdd]; exact rfl) rfl fun s0 hs0 => ?_
  refine dwp_len (t := 0) rfl fun hl0 hL0 => ?_
  refine dwp_seq ?_
  refine dwp_region ?_
  refine walk_r rfl rfl rfl (op_move (.inr rfl) (ev1 rfl)) ?_
  refine walk_nil ?_
  refine dwp_seq ?_
  refine dwp_seq ?_
  refine dwp_region ?_
  refine walk_r rfl rfl rfl (op_move (.inl rfl) (ev1 rfl)) ?_
  refine walk_nil? rfl rfl rfl rfl sl22 (ev1 rfl) fun nb4 hnb4 => ?_
  refine walk_nil ?_
  refine dwp_cond rfl (fun c1 => ?_) (fun c1 => ?_)
  · try simp only [decide_eq_true_eq, decide_eq_false_iff_not, beq_iff_eq, bne_iff_ne, beq_eq_false_iff_ne, bne_eq_false_iff_eq, Bool.not_eq_true', Bool.not_eq_false', Bool.and_eq_true, Bool.or_eq_true, Bool.or_eq_false_iff, ne_eq, Decidable.not_not, Int.not_lt, Int.not_le] at c1
    refine dwp_seq ?_
    refine dwp_region ?_
    refine walk_r rfl rfl rfl (op_move (.inr rfl) (ev1 rfl)) ?_
    refine walk_nil ?_
    refine dwp_adopt 2 27 3 rfl rfl rfl ?_
    refine dwp_ret ?_
    refine kend [0] (rs1 rfl (rv_t rfl)) rfl rfl ?_ ⟨?_, trivial⟩
    rfl
    exact (by obtain ⟨h1, h2⟩ := hnb4 c1; simp_all [MFits, vwB])
  · try simp only [decide_eq_true_eq, decide_eq_false_iff_not, beq_iff_eq, bne_iff_ne, beq_eq_false_iff_ne, bne_eq_false_iff_eq, Bool.not_eq_true', Bool.not_eq_false', Bool.and_eq_true, Bool.or_eq_true, Bool.or_eq_false_iff, ne_eq, Decidable.not_not, Int.not_lt, Int.not_le] at c1
    refine dwp_skip ?_
    refine dwp_seq ?_
    refine dwp_holes 2 (by simp only [holes, List.cons_append, List.nil_append]; exact rfl) ?_
    refine dwp_region ?_
    refine walk_w rfl rfl rfl (op_bsa (ps := []) 0 rfl sl22 zr27 rfl vn rfl (by decide) (by decide) rfl) (by simp only [upd, List.set_cons_zero, List.set_cons_succ]; exact rfl) ?_
    refine walk_r rfl rfl rfl (op_move (.inl rfl) (ev1 rfl)) ?_
    refine walk_w rfl rfl rfl (op_app (j := 1) rfl sl22 zr27 rfl (ev1 rfl) (ev1 rfl) src_slf rfl rfl (fun _ => flat_oc (fun _ => rfl) l) (fun _ => ⟨by omega, by omega⟩)) (by simp only [upd, List.set_cons_zero, List.set_cons_succ]; exact rfl) ?_
    refine walk_r rfl rfl rfl (op_move (.inr rfl) (ev1 rfl)) ?_
    refine walk_nil ?_
    refine dwp_ret ?_
    refine kend [1] (rs1 rfl (rv_t rfl)) rfl rfl ?_ ⟨?_, trivial⟩
    rfl
    simp [vwB]
set_option maxRecDepth 4000 in
set_option maxHeartbeats 1000000 in
theorem stable_d (l : List I3) (h : l.length < 20) : DFun Tryd.prog 63 [.arr 0, .val (.int .i64 (l.length : Int)), .fn (.func 57) [] [.dpm [.fn (.func 41) [] []]]] [.arr 27 3 l.length ((l).flatMap idc)] (.tup []) [.arr 27 3 l.length ((isortC l).flatMap idc)] := by
  refine dcalls_go (N := 63) 1 (by kernel_rfl) Tryd.func63 rfl rfl rfl (by simp only [fr0, Nat.zero_add, Nat.reduceAdd]; exact rfl) rfl fun s0 hs0 => ?_
  refine dwp_lena (i := 0) rfl fun hl0 hL0 => ?_
  refine dwp_seq ?_
  refine dwp_region ?_
  refine walk_r rfl rfl rfl (op_move (.inr rfl) (ev1 rfl)) ?_
  refine walk_nil ?_
  refine dwp_seq ?_
  refine dwp_region ?_
  refine walk_r rfl rfl rfl (op_move (.inl rfl) (ev1 rfl)) ?_
  refine walk_r rfl rfl rfl (op_move (.inr rfl) (ev1 rfl)) ?_
  refine walk_r rfl rfl rfl (op_move (.inr rfl) (ev1 rfl)) ?_
  refine walk_nil ?_
  refine dwp_seq ?_
  refine dwp_block ?_
  refine dwp_once ?_
  refine dwp_seq ?_
  refine dwp_seq ?_
  refine dwp_region ?_
  refine walk_r rfl rfl rfl (op_move (.inl rfl) (ev1 rfl)) ?_
  refine walk_r rfl rfl rfl (op_move (.inl rfl) (ev1 rfl)) ?_
  refine walk_r rfl rfl rfl (op_leq rfl (ev1 rfl) (ev1 rfl)) ?_
  refine walk_nil ?_
  refine dwp_if_f rfl (by simp; omega) ?_
  refine dwp_exit ?_
  refine dwp_seq ?_
  refine dwp_region ?_
  refine walk_r rfl rfl rfl (op_move (.inl rfl) (ev1 rfl)) ?_
  refine walk_r rfl rfl rfl (op_move (.inl rfl) (ev1 rfl)) ?_
  refine walk_r rfl rfl rfl (op_move (.inl rfl) (ev1 rfl)) ?_
  refine walk_r rfl rfl rfl (op_move (.inl rfl) (ev1 rfl)) ?_
  refine walk_w rfl rfl rfl (dop_call [0] [] [] rfl (ev1 rfl) (ec (ev1 rfl) (ec (ev1 rfl) (ec (ev1 rfl) (ec (ev1 rfl) en)))) rfl rfl (insertion_d _) rfl rfl rfl rfl rfl rfl) (by simp only [upd, List.set_cons_zero, List.set_cons_succ]; exact rfl) ?_
  refine walk_nil ?_
  refine dwp_block ?_
  refine dwp_once ?_
  refine dwp_seq ?_
  refine dwp_seq ?_
  refine dwp_region ?_
  refine walk_r rfl rfl rfl (op_move (.inl rfl) (ev1 rfl)) ?_
  refine walk_r rfl rfl rfl (op_move (.inl rfl) (ev1 rfl)) ?_
  refine walk_r rfl rfl rfl (op_lss rfl (ev1 rfl) (ev1 rfl)) ?_
  refine walk_nil ?_
  refine dwp_if_f rfl (by simp; omega) ?_
  refine dwp_exit ?_
  refine kend [0] (res_none rfl) rfl rfl ?_ ⟨rfl, trivial⟩
  rfl
set_option maxRecDepth 4000 in
set_option maxHeartbeats 1000000 in
theorem sortStable_d (l : List I3) (h : l.length < 20) : DFun Tryd.prog 56 [.arr 0, .fn (.func 57) [] [.dpm [.fn (.func 41) [] []]]] [.arr 27 3 l.length ((l).flatMap idc)] (.tup []) [.arr 27 3 l.length ((isortC l).flatMap idc)] := by
  refine dcalls_go (N := 9) 1 (by kernel_rfl) Tryd.func56 rfl rfl rfl (by simp only [fr0, Nat.zero_add, Nat.reduceAdd]; exact rfl) rfl fun s0 hs0 => ?_
  refine dwp_lena (i := 0) rfl fun hl0 hL0 => ?_
  refine dwp_region ?_
  refine walk_r rfl rfl rfl (op_move (.inl rfl) (ev1 rfl)) ?_
  refine walk_r rfl rfl rfl (op_move (.inl rfl) (ev1 rfl)) ?_
  refine walk_r rfl rfl rfl (op_lena rfl sl22 (ev1 rfl) rfl) ?_
  refine walk_r rfl rfl rfl (op_move (.inl rfl) (ev1 rfl)) ?_
  refine walk_w rfl rfl rfl (dop_call [0] [] [] rfl (ev1 rfl) (ec (ev1 rfl) (ec (ev1 rfl) (ec (ev1 rfl) en))) rfl rfl (stable_d _ (by assumption)) rfl rfl rfl rfl rfl rfl) (by simp only [upd, List.set_cons_zero, List.set_cons_succ]; exact rfl) ?_
  refine walk_nil ?_
  refine kend [0] (res_none rfl) rfl rfl ?_ ⟨rfl, trivial⟩
  rfl
set_option maxRecDepth 4000 in
set_option maxHeartbeats 1000000 in
theorem sortedF_d (l : List I3) (h : l.length < 20) : DFun Tryd.prog 40 [rowD l, .fn (.func 41) [] []] [] (.arr 0) [.arr 27 3 l.length ((isortC l).flatMap idc)] := by
  refine dcalls_go (N := 12) 0 (by kernel_rfl) Tryd.func40 rfl rfl rfl (by simp only [fr0, Nat.zero_add, Nat.reduceAdd]; exact rfl) rfl fun s0 hs0 => ?_
  refine dwp_len (t := 0) rfl fun hl0 hL0 => ?_
  refine dwp_seq ?_
  refine dwp_holes 1 (by simp only [holes, List.cons_append, List.nil_append]; exact rfl) ?_
  refine dwp_region ?_
  refine walk_w rfl rfl rfl (op_boxm 0 rfl (ev1 rfl) (fun s v h => by cases h <;> rfl) rfl) (by simp only [upd, List.set_cons_zero, List.set_cons_succ]; exact rfl) ?_
  refine walk_r rfl rfl rfl (op_move (.inr rfl) (ev1 rfl)) ?_
  refine walk_nil ?_
  refine dwp_seq ?_
  refine dwp_holes 1 (by simp only [holes, List.cons_append, List.nil_append]; exact rfl) ?_
  refine dwp_region ?_
  refine walk_r rfl rfl rfl (op_move (.inl rfl) (ev1 rfl)) ?_
  refine walk_w rfl rfl rfl (dop_call [] [] [1] rfl (ev1 rfl) (ec (ev1 rfl) en) rfl rfl (cloneId _ (by omega)) rfl rfl rfl rfl rfl rfl) (by simp only [upd, List.set_cons_zero, List.set_cons_succ]; exact rfl) ?_
  refine walk_r rfl rfl rfl (op_move (.inr rfl) (ev1 rfl)) ?_
  refine walk_nil ?_
  refine dwp_seq ?_
  refine dwp_region ?_
  refine walk_r rfl rfl rfl (op_move (.inl rfl) (ev1 rfl)) ?_
  refine walk_r rfl rfl rfl (op_mkf rfl en (ec (ev1 rfl) en)) ?_
  refine walk_w rfl rfl rfl (dop_call [1] [0] [] rfl (ev1 rfl) (ec (ev1 rfl) (ec (ev1 rfl) en)) rfl rfl (sortStable_d _ (by assumption)) rfl rfl rfl rfl rfl rfl) (by simp only [upd, List.set_cons_zero, List.set_cons_succ]; exact rfl) ?_
  refine walk_nil ?_
  refine dwp_seq ?_
  refine dwp_region ?_
  refine walk_r rfl rfl rfl (op_move (.inl rfl) (ev1 rfl)) ?_
  refine walk_r rfl rfl rfl (op_move (.inr rfl) (ev1 rfl)) ?_
  refine walk_nil ?_
  refine dwp_ret ?_
  refine kend [1] (rs1 rfl (rv_t rfl)) rfl rfl ?_ ⟨rfl, trivial⟩
  rfl
set_option maxRecDepth 4000 in
set_option maxHeartbeats 1000000 in
theorem sorted_d (l : List I3) (h : l.length < 20) : DFun Tryd.prog 16 [rowD l] [] (.arr 0) [.arr 27 3 l.length ((isortC l).flatMap idc)] := by
  refine dcalls_go (N := 5) 0 (by kernel_rfl) Tryd.func16 rfl rfl rfl (by simp only [fr0, Nat.zero_add, Nat.reduceAdd]; exact rfl) rfl fun s0 hs0 => ?_
  refine dwp_len (t := 0) rfl fun hl0 hL0 => ?_
  refine dwp_seq ?_
  refine dwp_region ?_
  refine walk_r rfl rfl rfl (op_move (.inr rfl) (ev1 rfl)) ?_
  refine walk_nil ?_
  refine dwp_seq ?_
  refine dwp_holes 1 (by simp only [holes, List.cons_append, List.nil_append]; exact rfl) ?_
  refine dwp_region ?_
  refine walk_r rfl rfl rfl (op_move (.inl rfl) (ev1 rfl)) ?_
  refine walk_w rfl rfl rfl (dop_call [] [] [0] rfl (ev1 rfl) (ec (ev1 rfl) (ec (ev1 rfl) en)) rfl rfl (sortedF_d _ (by assumption)) rfl rfl rfl rfl rfl rfl) (by simp only [upd, List.set_cons_zero, List.set_cons_succ]; exact rfl) ?_
  refine walk_r rfl rfl rfl (op_move (.inr rfl) (ev1 rfl)) ?_
  refine walk_nil ?_
  refine dwp_ret ?_
  refine kend [0] (rs1 rfl (rv_t rfl)) rfl rfl ?_ ⟨rfl, trivial⟩
  rfl
end Go.Proofs.YtaekkjhpdendoaaDoor

namespace Go.Proofs.YtaekkjhpdendoaaDoor
set_option linter.unusedVariables false
set_option linter.unusedSimpArgs false
open Go.RowKit
set_option maxRecDepth 4000 in
set_option maxHeartbeats 1000000 in
theorem equalId (l r : List I3) : DFun Tryd.prog 17 [.slf 3 l.length (l.flatMap idc), .slf 3 r.length (r.flatMap idc)] [] (.val (.bool (decide (l = r)))) [] := by
  refine dcalls_go (N := 26) 0 (by kernel_rfl) Tryd.func17 rfl rfl rfl (by simp only [fr0, Nat.zero_add, Nat.reduceAdd]; exact rfl) rfl fun s0 hs0 => ?_
  refine dwp_len (t := 0) rfl fun hl0 hL0 => ?_
  refine dwp_len (t := 1) rfl fun hl1 hL1 => ?_
  refine dwp_seq ?_
  refine dwp_region ?_
  refine walk_r rfl rfl rfl (op_move (.inr rfl) (ev1 rfl)) ?_
  refine walk_nil ?_
  refine dwp_seq ?_
  refine dwp_seq ?_
  refine dwp_region ?_
  refine walk_r rfl rfl rfl (op_move (.inl rfl) (ev1 rfl)) ?_
  refine walk_r rfl rfl rfl (op_len rfl sl22 (ev1 rfl)) ?_
  refine walk_r rfl rfl rfl (op_move (.inl rfl) (ev1 rfl)) ?_
  refine walk_r rfl rfl rfl (op_len rfl sl22 (ev1 rfl)) ?_
  refine walk_r rfl rfl rfl (op_neq rfl (ev1 rfl) (ev1 rfl)) ?_
  refine walk_nil ?_
  refine dwp_cond rfl (fun c1 => ?_) (fun c1 => ?_)
  · try simp only [decide_eq_true_eq, decide_eq_false_iff_not, beq_iff_eq, bne_iff_ne, beq_eq_false_iff_ne, bne_eq_false_iff_eq, Bool.not_eq_true', Bool.not_eq_false', Bool.and_eq_true, Bool.or_eq_true, Bool.or_eq_false_iff, ne_eq, Decidable.not_not, Int.not_lt, Int.not_le] at c1
    refine dwp_seq ?_
    refine dwp_region ?_
    refine walk_r rfl rfl rfl (op_move (.inr rfl) (ev1 rfl)) ?_
    refine walk_nil ?_
    refine dwp_ret ?_
    refine kend0 (rs1 rfl (rv_t rfl)) rfl ?_
    have hne : l ≠ r := fun e => by subst e; exact c1 rfl
    rw [decide_eq_false hne]
  · try simp only [decide_eq_true_eq, decide_eq_false_iff_not, beq_iff_eq, bne_iff_ne, beq_eq_false_iff_ne, bne_eq_false_iff_eq, Bool.not_eq_true', Bool.not_eq_false', Bool.and_eq_true, Bool.or_eq_true, Bool.or_eq_false_iff, ne_eq, Decidable.not_not, Int.not_lt, Int.not_le] at c1
    have hlen : l.length = r.length := by omega
    refine dwp_skip ?_
    refine dwp_seq ?_
    refine dwp_seq ?_
    refine dwp_region ?_
    refine walk_r rfl rfl rfl (op_move (.inl rfl) (ev1 rfl)) ?_
    refine walk_r rfl rfl rfl (op_len rfl sl22 (ev1 rfl)) ?_
    refine walk_r rfl rfl rfl (op_move (.inl rfl) (ev1 rfl)) ?_
    refine walk_nil ?_
    refine dwp_block ?_
    refine dwp_loopS ⟨hs0, rfl⟩ (α := Nat) (fun k => [(13, .val (.int .i64 (k : Int)))]) [(0, _), (1, _), (12, _)] (fun k => []) [] (fun k => k ≤ l.length ∧ l.take k = r.take k) (fun k => l.length - k) 0 [] (by simp) rfl ⟨rfl, rfl, rfl, trivial⟩ ⟨rfl, trivial⟩ trivial ?_
    intro k hx
    simp only [upd, List.set_cons_zero, List.set_cons_succ, List.cons_append, List.nil_append]
    obtain ⟨hk, he⟩ := hx
    refine dwp_seq ?_
    refine dwp_region ?_
    refine walk_r rfl rfl rfl (op_lss rfl (ev1 rfl) (ev1 rfl)) ?_
    refine walk_nil ?_
    refine dwp_seq ?_
    refine dwp_cond rfl (fun c2 => ?_) (fun c2 => ?_)
    · try simp only [decide_eq_true_eq, decide_eq_false_iff_not, beq_iff_eq, bne_iff_ne, beq_eq_false_iff_ne, bne_eq_false_iff_eq, Bool.not_eq_true', Bool.not_eq_false', Bool.and_eq_true, Bool.or_eq_true, Bool.or_eq_false_iff, ne_eq, Decidable.not_not, Int.not_lt, Int.not_le] at c2
      refine dwp_skip ?_
      refine dwp_seq ?_
      refine dwp_block ?_
      refine dwp_seq ?_
      refine dwp_region ?_
      refine walk_r rfl rfl rfl (op_move (.inl rfl) (ev1 rfl)) ?_
      refine walk_r rfl rfl rfl (op_move (.inr rfl) (ev1 rfl)) ?_
      refine walk_nil ?_
      refine dwp_seq ?_
      refine dwp_draw [([], []), ([], []), ([], []), ([], []), ([], []), ([], []), ([], []), ([], []), ([], [])] mixed (by kernel_rfl) ?_
      refine lex_r rfl rfl (op_move (.inl rfl) (ev1 rfl)) ?_
      refine lex_r rfl rfl (op_move (.inl rfl) (ev1 rfl)) ?_
      refine lex_r rfl rfl (op_ixsr (j := k) rfl sl22 (ev1 rfl) (ev1 rfl) (fun _ => rfl) (by decide) (by omega) (by omega)) ?_
      refine lex_r rfl rfl (op_ldwd rfl tb27 (ev1 rfl) rfl) ?_
      refine lex_r rfl rfl (op_move (.inl rfl) (ev1 rfl)) ?_
      refine lex_r rfl rfl (op_move (.inl rfl) (ev1 rfl)) ?_
      refine lex_r rfl rfl (op_ixsr (j := k) rfl sl22 (ev1 rfl) (ev1 rfl) (fun _ => rfl) (by decide) (by omega) (by omega)) ?_
      refine lex_r rfl rfl (op_ldwd rfl tb27 (ev1 rfl) rfl) ?_
      refine lex_r rfl rfl (op_ner eq27 rfl gd27 tb27 (ev1 rfl) (ev1 rfl)) ?_
      refine lex_nil ?_
      refine dwp_cond rfl (fun c2 => ?_) (fun c2 => ?_)
      · have c3 : l[k] ≠ r[k] := eqI_no.1 (bn_t c2)
        refine dwp_seq ?_
        refine dwp_region ?_
        refine walk_r rfl rfl rfl (op_move (.inr rfl) (ev1 rfl)) ?_
        refine walk_nil ?_
        refine dwp_ret ?_
        refine kend0 (rs1 rfl (rv_t rfl)) rfl ?_
        have hne : l ≠ r := fun e => by subst e; exact c3 rfl
        rw [decide_eq_false hne]
      · have c3 : l[k] = r[k] := eqI_iff.1 (bn_f c2)
        refine dwp_skip ?_
        refine dwp_region ?_
        refine walk_r rfl rfl rfl (op_add' rfl (ev1 rfl) (ev1 rfl) (fun _ => IntWalk.i64_in _ (by omega))) ?_
        refine walk_r rfl rfl rfl (op_move (.inl rfl) (ev1 rfl)) ?_
        refine walk_nil ?_
        refine ⟨k + 1, [], ⟨by omega, by rw [List.take_succ_eq_append_getElem (by omega), List.take_succ_eq_append_getElem (by omega), he, c3]⟩, by simp only []; omega, rfl, ⟨rfl, rfl, rfl, rfl, trivial⟩, trivial⟩
    · try simp only [decide_eq_true_eq, decide_eq_false_iff_not, beq_iff_eq, bne_iff_ne, beq_eq_false_iff_ne, bne_eq_false_iff_eq, Bool.not_eq_true', Bool.not_eq_false', Bool.and_eq_true, Bool.or_eq_true, Bool.or_eq_false_iff, ne_eq, Decidable.not_not, Int.not_lt, Int.not_le] at c2
      refine dwp_exit ?_
      refine dwp_seq ?_
      refine dwp_region ?_
      refine walk_r rfl rfl rfl (op_move (.inr rfl) (ev1 rfl)) ?_
      refine walk_nil ?_
      refine dwp_ret ?_
      refine kend0 (rs1 rfl (rv_t rfl)) rfl ?_
      have e : l = r := by
        have h := he
        rw [List.take_of_length_le (by omega), List.take_of_length_le (by omega)] at h
        exact h
      rw [decide_eq_true e]
set_option maxRecDepth 4000 in
set_option maxHeartbeats 1000000 in
theorem checkClock_d (c : C3) : DFun Tryd.prog 23 [ckD c] [] (.val (.int .i64 (errOr (clkR c) 211))) [] := by
  refine dcalls_go (N := 17) 0 (by kernel_rfl) Tryd.func23 rfl rfl rfl (by simp only [fr0, Nat.zero_add, Nat.reduceAdd]; exact rfl) rfl fun s0 hs0 => ?_
  refine dwp_seq ?_
  refine dwp_holes 1 (by simp only [holes, List.cons_append, List.nil_append]; exact rfl) ?_
  refine dwp_region ?_
  refine walk_w rfl rfl rfl (op_boxa 0 rfl (ev1 rfl) rfl) (by simp only [upd, List.set_cons_zero, List.set_cons_succ]; exact rfl) ?_
  refine walk_r rfl rfl rfl (op_move (.inr rfl) (ev1 rfl)) ?_
  refine walk_nil ?_
  refine dwp_seq ?_
  refine dwp_seq ?_
  refine dwp_region ?_
  refine walk_r rfl rfl rfl (op_fa rfl fo40_0 (ev1 rfl)) ?_
  refine walk_r rfl rfl rfl (op_ldo rfl tb3 (ev1 rfl) rfl rfl) ?_
  refine walk_r rfl rfl rfl (dop_call [] [] [] rfl (ev1 rfl) (ec (ev1 rfl) en) rfl rfl (isSite_d _) rfl rfl rfl rfl rfl rfl) ?_
  refine walk_r rfl rfl rfl (op_not rfl (ev1 rfl)) ?_
  refine walk_r rfl rfl rfl (op_move (.inl rfl) (ev1 rfl)) ?_
  refine walk_gr (gd_f rfl rfl rfl) rfl rfl rfl (op_fa rfl fo40_1 (ev1 rfl)) ?_
  refine walk_gr (gd_f rfl rfl rfl) rfl rfl rfl (op_ldo rfl tb25 (ev2 rfl) rfl rfl) ?_
  refine walk_gr (gd_f rfl rfl rfl) rfl rfl rfl (op_gtr rfl (ev2 rfl) (ev1 rfl)) ?_
  refine walk_r rfl rfl rfl (op_or rfl (ev1 rfl) (ev3 rfl id)) ?_
  refine walk_r rfl rfl rfl (op_move (.inl rfl) (ev1 rfl)) ?_
  refine walk_gr (gd_f rfl rfl rfl) rfl rfl rfl (op_fa rfl fo40_2 (ev1 rfl)) ?_
  refine walk_gr (gd_f rfl rfl rfl) rfl rfl rfl (op_ldo rfl tb25 (ev2 rfl) rfl rfl) ?_
  refine walk_gr (gd_f rfl rfl rfl) rfl rfl rfl (op_gtr rfl (ev2 rfl) (ev1 rfl)) ?_
  refine walk_r rfl rfl rfl (op_or rfl (ev1 rfl) (ev3 rfl id)) ?_
  refine walk_nil ?_
  refine dwp_cond rfl (fun c1 => ?_) (fun c1 => ?_)
  · try simp only [decide_eq_true_eq, decide_eq_false_iff_not, beq_iff_eq, bne_iff_ne, beq_eq_false_iff_ne, bne_eq_false_iff_eq, Bool.not_eq_true', Bool.not_eq_false', Bool.and_eq_true, Bool.or_eq_true, Bool.or_eq_false_iff, ne_eq, Decidable.not_not, Int.not_lt, Int.not_le] at c1
    refine dwp_seq ?_
    refine dwp_region ?_
    refine walk_r rfl rfl rfl (op_move (.inr rfl) (ev1 rfl)) ?_
    refine walk_nil ?_
    refine dwp_ret ?_
    refine kend0 (rs1 rfl (rv_t rfl)) rfl ?_
    cases h1 : isSt c.s <;> by_cases g1 : c.t ≤ 4611686018427387904 <;> by_cases g2 : c.q ≤ 4611686018427387904 <;> simp [clkR, errOr, h1, g1, g2] <;> simp_all <;> omega
  · try simp only [decide_eq_true_eq, decide_eq_false_iff_not, beq_iff_eq, bne_iff_ne, beq_eq_false_iff_ne, bne_eq_false_iff_eq, Bool.not_eq_true', Bool.not_eq_false', Bool.and_eq_true, Bool.or_eq_true, Bool.or_eq_false_iff, ne_eq, Decidable.not_not, Int.not_lt, Int.not_le] at c1
    refine dwp_skip ?_
    refine dwp_seq ?_
    refine dwp_region ?_
    refine walk_r rfl rfl rfl (op_move (.inr rfl) (ev1 rfl)) ?_
    refine walk_nil ?_
    refine dwp_ret ?_
    refine kend0 (rs1 rfl (rv_t rfl)) rfl ?_
    cases h1 : isSt c.s <;> by_cases g1 : c.t ≤ 4611686018427387904 <;> by_cases g2 : c.q ≤ 4611686018427387904 <;> simp [clkR, errOr, h1, g1, g2] <;> simp_all <;> omega
set_option maxRecDepth 4000 in
set_option maxHeartbeats 1000000 in
theorem give_d (c : C3) (h1 : 0 ≤ c.t ∧ c.t < 4611686018427387904) (h2 : 0 ≤ c.q ∧ c.q < 4611686018427387904) : DFun Tryd.prog 43 [.loc 0 0] [.flat 81 (ckc c)] (idD (stepI c)) [.flat 81 (ckc (stepC c))] := by
  refine dcalls_go (N := 37) 1 (by kernel_rfl) Tryd.func43 rfl rfl rfl (by simp only [fr0, Nat.zero_add, Nat.reduceAdd]; exact rfl) rfl fun s0 hs0 => ?_
  refine dwp_seq ?_
  refine dwp_holes 1 (by simp only [holes, List.cons_append, List.nil_append]; exact rfl) ?_
  refine dwp_region ?_
  refine walk_w rfl rfl rfl (op_alloc 1 rfl zr27 rfl) (by simp only [upd, List.set_cons_zero, List.set_cons_succ]; exact rfl) ?_
  refine walk_nil ?_
  refine dwp_seq ?_
  refine dwp_region ?_
  refine walk_r rfl rfl rfl (op_move (.inl rfl) (ev1 rfl)) ?_
  refine walk_r rfl rfl rfl (op_nc rfl (ev1 rfl) (fun s v h => by cases h; exact ⟨_, rfl⟩)) ?_
  refine walk_r rfl rfl rfl (op_fa rfl fo81_0 (ev1 rfl)) ?_
  refine walk_r rfl rfl rfl (op_fa rfl fo40_1 (ev1 rfl)) ?_
  refine walk_r rfl rfl rfl (op_ldo rfl tb25 (ev1 rfl) rfl rfl) ?_
  refine walk_r rfl rfl rfl (op_add' rfl (ev1 rfl) (ev1 rfl) (fun _ => IntWalk.u64_in _ (by omega))) ?_
  refine walk_r rfl rfl rfl (op_nc rfl (ev1 rfl) (fun s v h => by cases h; exact ⟨_, rfl⟩)) ?_
  refine walk_r rfl rfl rfl (op_fa rfl fo81_0 (ev1 rfl)) ?_
  refine walk_r rfl rfl rfl (op_fa rfl fo40_1 (ev1 rfl)) ?_
  refine walk_s rfl rfl (op_st1 rfl tb25 (ev1 rfl) (ev1 rfl) rfl (Nat.le_of_ble_eq_true rfl) rfl) (by simp only [upd, List.set_cons_zero, List.set_cons_succ]; exact rfl) ?_
  refine walk_nil ?_
  refine dwp_seq ?_
  refine dwp_region ?_
  refine walk_r rfl rfl rfl (op_move (.inl rfl) (ev1 rfl)) ?_
  refine walk_r rfl rfl rfl (op_nc rfl (ev1 rfl) (fun s v h => by cases h; exact ⟨_, rfl⟩)) ?_
  refine walk_r rfl rfl rfl (op_fa rfl fo81_0 (ev1 rfl)) ?_
  refine walk_r rfl rfl rfl (op_fa rfl fo40_2 (ev1 rfl)) ?_
  refine walk_r rfl rfl rfl (op_ldo rfl tb25 (ev1 rfl) rfl rfl) ?_
  refine walk_r rfl rfl rfl (op_add' rfl (ev1 rfl) (ev1 rfl) (fun _ => IntWalk.u64_in _ (by omega))) ?_
  refine walk_r rfl rfl rfl (op_nc rfl (ev1 rfl) (fun s v h => by cases h; exact ⟨_, rfl⟩)) ?_
  refine walk_r rfl rfl rfl (op_fa rfl fo81_0 (ev1 rfl)) ?_
  refine walk_r rfl rfl rfl (op_fa rfl fo40_2 (ev1 rfl)) ?_
  refine walk_s rfl rfl (op_st1 rfl tb25 (ev1 rfl) (ev1 rfl) rfl (Nat.le_of_ble_eq_true rfl) rfl) (by simp only [upd, List.set_cons_zero, List.set_cons_succ]; exact rfl) ?_
  refine walk_nil ?_
  refine dwp_seq ?_
  refine dwp_draw [([], []), ([], []), ([], []), ([], []), ([0], []), ([], []), ([], []), ([], []), ([], []), ([0], []), ([], []), ([], []), ([], []), ([], []), ([0], []), ([], []), ([1], [1])] mixed (by kernel_rfl) ?_
  refine lex_r rfl rfl (op_move (.inl rfl) (ev1 rfl)) ?_
  refine lex_r rfl rfl (op_nc rfl (ev1 rfl) (fun s v h => by cases h; exact ⟨_, rfl⟩)) ?_
  refine lex_r rfl rfl (op_fa rfl fo81_0 (ev1 rfl)) ?_
  refine lex_r rfl rfl (op_fa rfl fo40_1 (ev1 rfl)) ?_
  refine lex_r rfl rfl (op_ldo rfl tb25 (ev1 rfl) rfl rfl) ?_
  refine lex_r rfl rfl (op_move (.inl rfl) (ev1 rfl)) ?_
  refine lex_r rfl rfl (op_nc rfl (ev1 rfl) (fun s v h => by cases h; exact ⟨_, rfl⟩)) ?_
  refine lex_r rfl rfl (op_fa rfl fo81_0 (ev1 rfl)) ?_
  refine lex_r rfl rfl (op_fa rfl fo40_0 (ev1 rfl)) ?_
  refine lex_r rfl rfl (op_ldo rfl tb3 (ev1 rfl) rfl rfl) ?_
  refine lex_r rfl rfl (op_move (.inl rfl) (ev1 rfl)) ?_
  refine lex_r rfl rfl (op_nc rfl (ev1 rfl) (fun s v h => by cases h; exact ⟨_, rfl⟩)) ?_
  refine lex_r rfl rfl (op_fa rfl fo81_0 (ev1 rfl)) ?_
  refine lex_r rfl rfl (op_fa rfl fo40_2 (ev1 rfl)) ?_
  refine lex_r rfl rfl (op_ldo rfl tb25 (ev1 rfl) rfl rfl) ?_
  refine lex_r rfl rfl (op_build (ps := [(0, .tmp 25), (1, .tmp 30), (2, .tmp 35)]) rfl fl27 zr27 (vc (ev1 rfl) (vc (ev1 rfl) (vc (ev1 rfl) vn))) rfl rfl) ?_
  refine lex_s rfl rfl (op_stwa rfl tb27 (ev1 rfl) (ev1 rfl) rfl rfl rfl rfl) rfl (by simp only [upd, List.set_cons_zero, List.set_cons_succ]; exact rfl) ?_
  refine lex_nil ?_
  refine dwp_ret ?_
  refine kend [0] (rs1 rfl (rv_w tb27 rfl rfl rfl)) rfl rfl ?_ ⟨rfl, trivial⟩
  rfl
set_option maxRecDepth 4000 in
set_option maxHeartbeats 1000000 in
theorem next_d (c : C3) (h : c.rng) : DFun Tryd.prog 26 [ckD c] [] (.tup [ckD (nextC c).1, idD (nextC c).2.1, .val (.int .i64 (nextC c).2.2)]) [] := by
  refine dcalls_go (N := 31) 0 (by kernel_rfl) Tryd.func26 rfl rfl rfl (by simp only [fr0, Nat.zero_add, Nat.reduceAdd]; exact rfl) rfl fun s0 hs0 => ?_
  refine dwp_seq ?_
  refine dwp_holes 3 (by simp only [holes, List.cons_append, List.nil_append]; exact rfl) ?_
  refine dwp_region ?_
  refine walk_w rfl rfl rfl (op_boxa 0 rfl (ev1 rfl) rfl) (by simp only [upd, List.set_cons_zero, List.set_cons_succ]; exact rfl) ?_
  refine walk_w rfl rfl rfl (op_alloc 1 rfl zr40 rfl) (by simp only [upd, List.set_cons_zero, List.set_cons_succ]; exact rfl) ?_
  refine walk_w rfl rfl rfl (op_alloc 2 rfl zr27 rfl) (by simp only [upd, List.set_cons_zero, List.set_cons_succ]; exact rfl) ?_
  refine walk_r rfl rfl rfl (op_move (.inr rfl) (ev1 rfl)) ?_
  refine walk_nil ?_
  refine dwp_seq ?_
  refine dwp_seq ?_
  refine dwp_region ?_
  refine walk_r rfl rfl rfl (op_ldw rfl tb40 (ev1 rfl) rfl rfl) ?_
  refine walk_r rfl rfl rfl (dop_call [] [] [] rfl (ev1 rfl) (ec (ev1 rfl) en) rfl rfl (checkClock_d _) rfl rfl rfl rfl rfl rfl) ?_
  refine walk_r rfl rfl rfl (op_move (.inr rfl) (ev1 rfl)) ?_
  refine walk_nil ?_
  refine dwp_seq ?_
  refine dwp_region ?_
  refine walk_r rfl rfl rfl (op_move (.inl rfl) (ev1 rfl)) ?_
  refine walk_r rfl rfl rfl (op_neq rfl (ev1 rfl) (ev1 rfl)) ?_
  refine walk_nil ?_
  refine dwp_cond rfl (fun c1 => ?_) (fun c1 => ?_)
  · try simp only [decide_eq_true_eq, decide_eq_false_iff_not, beq_iff_eq, bne_iff_ne, beq_eq_false_iff_ne, bne_eq_false_iff_eq, Bool.not_eq_true', Bool.not_eq_false', Bool.and_eq_true, Bool.or_eq_true, Bool.or_eq_false_iff, ne_eq, Decidable.not_not, Int.not_lt, Int.not_le] at c1
    have hc : clkR c = false := badE c1
    refine dwp_seq ?_
    refine dwp_region ?_
    refine walk_r rfl rfl rfl (op_build0 rfl fl40 zr40) ?_
    refine walk_r rfl rfl rfl (op_build0 rfl fl27 zr27) ?_
    refine walk_r rfl rfl rfl (op_move (.inl rfl) (ev1 rfl)) ?_
    refine walk_s rfl rfl (op_stwa rfl tb40 (ev1 rfl) (ev1 rfl) rfl rfl rfl rfl) (by simp only [upd, List.set_cons_zero, List.set_cons_succ]; exact rfl) ?_
    refine walk_s rfl rfl (op_stwa rfl tb27 (ev1 rfl) (ev1 rfl) rfl rfl rfl rfl) (by simp only [upd, List.set_cons_zero, List.set_cons_succ]; exact rfl) ?_
    refine walk_r rfl rfl rfl (op_move (.inr rfl) (ev1 rfl)) ?_
    refine walk_nil ?_
    refine dwp_ret ?_
    refine kend0 (rs3 rfl (rv_w tb40 rfl rfl rfl) (rv_w tb27 rfl rfl rfl) (rv_t rfl)) rfl ?_
    simp_all [nextC, errOr, lateC, zC, zI, ckc, stepC, stepI]
  · try simp only [decide_eq_true_eq, decide_eq_false_iff_not, beq_iff_eq, bne_iff_ne, beq_eq_false_iff_ne, bne_eq_false_iff_eq, Bool.not_eq_true', Bool.not_eq_false', Bool.and_eq_true, Bool.or_eq_true, Bool.or_eq_false_iff, ne_eq, Decidable.not_not, Int.not_lt, Int.not_le] at c1
    have hc : clkR c = true := okE (by decide) c1
    refine dwp_skip ?_
    refine dwp_seq ?_
    refine dwp_seq ?_
    refine dwp_region ?_
    refine walk_r rfl rfl rfl (op_fa rfl fo40_1 (ev1 rfl)) ?_
    refine walk_r rfl rfl rfl (op_ldo rfl tb25 (ev1 rfl) rfl rfl) ?_
    refine walk_r rfl rfl rfl (op_eql rfl (ev1 rfl) (ev1 rfl)) ?_
    refine walk_r rfl rfl rfl (op_move (.inl rfl) (ev1 rfl)) ?_
    refine walk_gr (gd_f rfl rfl rfl) rfl rfl rfl (op_fa rfl fo40_2 (ev1 rfl)) ?_
    refine walk_gr (gd_f rfl rfl rfl) rfl rfl rfl (op_ldo rfl tb25 (ev2 rfl) rfl rfl) ?_
    refine walk_gr (gd_f rfl rfl rfl) rfl rfl rfl (op_eql rfl (ev2 rfl) (ev1 rfl)) ?_
    refine walk_r rfl rfl rfl (op_or rfl (ev1 rfl) (ev3 rfl id)) ?_
    refine walk_nil ?_
    refine dwp_cond rfl (fun c2 => ?_) (fun c2 => ?_)
    · try simp only [decide_eq_true_eq, decide_eq_false_iff_not, beq_iff_eq, bne_iff_ne, beq_eq_false_iff_ne, bne_eq_false_iff_eq, Bool.not_eq_true', Bool.not_eq_false', Bool.and_eq_true, Bool.or_eq_true, Bool.or_eq_false_iff, ne_eq, Decidable.not_not, Int.not_lt, Int.not_le] at c2
      refine dwp_seq ?_
      refine dwp_region ?_
      refine walk_r rfl rfl rfl (op_build0 rfl fl40 zr40) ?_
      refine walk_r rfl rfl rfl (op_build0 rfl fl27 zr27) ?_
      refine walk_s rfl rfl (op_stwa rfl tb40 (ev1 rfl) (ev1 rfl) rfl rfl rfl rfl) (by simp only [upd, List.set_cons_zero, List.set_cons_succ]; exact rfl) ?_
      refine walk_s rfl rfl (op_stwa rfl tb27 (ev1 rfl) (ev1 rfl) rfl rfl rfl rfl) (by simp only [upd, List.set_cons_zero, List.set_cons_succ]; exact rfl) ?_
      refine walk_r rfl rfl rfl (op_move (.inr rfl) (ev1 rfl)) ?_
      refine walk_nil ?_
      refine dwp_ret ?_
      refine kend0 (rs3 rfl (rv_w tb40 rfl rfl rfl) (rv_w tb27 rfl rfl rfl) (rv_t rfl)) rfl ?_
      simp_all [nextC, errOr, lateC, zC, zI, ckc, stepC, stepI]
    · try simp only [decide_eq_true_eq, decide_eq_false_iff_not, beq_iff_eq, bne_iff_ne, beq_eq_false_iff_ne, bne_eq_false_iff_eq, Bool.not_eq_true', Bool.not_eq_false', Bool.and_eq_true, Bool.or_eq_true, Bool.or_eq_false_iff, ne_eq, Decidable.not_not, Int.not_lt, Int.not_le] at c2
      refine dwp_skip ?_
      refine dwp_seq ?_
      refine dwp_holes 1 (by simp only [holes, List.cons_append, List.nil_append]; exact rfl) ?_
      refine dwp_region ?_
      refine walk_r rfl rfl rfl (op_ldw rfl tb40 (ev1 rfl) rfl rfl) ?_
      refine walk_r rfl rfl rfl (op_build (ps := [(0, .tmp 25)]) rfl fl81 zr81 (vc (ev1 rfl) vn) rfl rfl) ?_
      refine walk_w rfl rfl rfl (op_alloc 3 rfl zr81 rfl) (by simp only [upd, List.set_cons_zero, List.set_cons_succ]; exact rfl) ?_
      refine walk_s rfl rfl (op_stwa rfl tb81 (ev1 rfl) (ev1 rfl) rfl rfl rfl rfl) (by simp only [upd, List.set_cons_zero, List.set_cons_succ]; exact rfl) ?_
      refine walk_nil ?_
      refine dwp_seq ?_
      refine dwp_holes 1 (by simp only [holes, List.cons_append, List.nil_append]; exact rfl) ?_
      refine dwp_region ?_
      refine walk_w rfl rfl rfl (dop_call [3] [] [] rfl (ev1 rfl) (ec (ev1 rfl) en) rfl rfl (give_d c (give_ok h hc c2).1 (give_ok h hc c2).2) rfl rfl rfl rfl rfl rfl) (by simp only [upd, List.set_cons_zero, List.set_cons_succ]; exact rfl) ?_
      refine walk_w rfl rfl rfl (op_alloc 4 rfl zr27 rfl) (by simp only [upd, List.set_cons_zero, List.set_cons_succ]; exact rfl) ?_
      refine walk_s rfl rfl (op_stwa rfl tb27 (ev1 rfl) (ev1 rfl) rfl rfl rfl rfl) (by simp only [upd, List.set_cons_zero, List.set_cons_succ]; exact rfl) ?_
      refine walk_nil ?_
      refine dwp_seq ?_
      refine dwp_draw [([], []), ([3], []), ([4], []), ([1], [1]), ([2], [2]), ([], [])] mixed (by kernel_rfl) ?_
      refine lex_r rfl rfl (op_fa rfl fo81_0 (ev1 rfl)) ?_
      refine lex_r rfl rfl (op_ldw rfl tb40 (ev1 rfl) rfl rfl) ?_
      refine lex_r rfl rfl (op_ldw rfl tb27 (ev1 rfl) rfl rfl) ?_
      refine lex_s rfl rfl (op_stwa rfl tb40 (ev1 rfl) (ev1 rfl) rfl rfl rfl rfl) rfl (by simp only [upd, List.set_cons_zero, List.set_cons_succ]; exact rfl) ?_
      refine lex_s rfl rfl (op_stwa rfl tb27 (ev1 rfl) (ev1 rfl) rfl rfl rfl rfl) rfl (by simp only [upd, List.set_cons_zero, List.set_cons_succ]; exact rfl) ?_
      refine lex_r rfl rfl (op_move (.inr rfl) (ev1 rfl)) ?_
      refine lex_nil ?_
      refine dwp_ret ?_
      refine kend0 (rs3 rfl (rv_w tb40 rfl rfl rfl) (rv_w tb27 rfl rfl rfl) (rv_t rfl)) rfl ?_
      simp_all [nextC, errOr, lateC, zC, zI, ckc, stepC, stepI]
end Go.Proofs.YtaekkjhpdendoaaDoor

namespace Go.Proofs.YtaekkjhpdendoaaDoor
set_option linter.unusedVariables false
set_option linter.unusedSimpArgs false
open Go.RowKit
set_option maxRecDepth 4000 in
set_option maxHeartbeats 1000000 in
theorem see1_d (t : Int) : DFun Tryd.prog 45 [.val (.int .u64 t)] [] (.val (.bool (over t))) [] := by
  refine dcalls_go (N := 5) 0 (by kernel_rfl) Tryd.func45 rfl rfl rfl (by simp only [fr0, Nat.zero_add, Nat.reduceAdd]; exact rfl) rfl fun s0 hs0 => ?_
  refine dwp_seq ?_
  refine dwp_region ?_
  refine walk_r rfl rfl rfl (op_move (.inr rfl) (ev1 rfl)) ?_
  refine walk_nil ?_
  refine dwp_seq ?_
  refine dwp_region ?_
  refine walk_r rfl rfl rfl (op_move (.inl rfl) (ev1 rfl)) ?_
  refine walk_r rfl rfl rfl (op_gtr rfl (ev1 rfl) (ev1 rfl)) ?_
  refine walk_r rfl rfl rfl (op_move (.inr rfl) (ev1 rfl)) ?_
  refine walk_nil ?_
  refine dwp_ret ?_
  refine kend0 (rs1 rfl (rv_t rfl)) rfl ?_
  rfl
set_option maxRecDepth 4000 in
set_option maxHeartbeats 1000000 in
theorem index_d (l : List Int) : DFun Tryd.prog 59 [rowU l, .fn (.func 45) [] []] [] (.val (.int .i64 (ixU l 0))) [] := by
  refine dcalls_go (N := 19) 0 (by kernel_rfl) Tryd.func59 rfl rfl rfl (by simp only [fr0, Nat.zero_add, Nat.reduceAdd]; exact rfl) rfl fun s0 hs0 => ?_
  refine dwp_len (t := 0) rfl fun hl0 hL0 => ?_
  refine dwp_seq ?_
  refine dwp_region ?_
  refine walk_r rfl rfl rfl (op_move (.inr rfl) (ev1 rfl)) ?_
  refine walk_nil ?_
  refine dwp_seq ?_
  refine dwp_seq ?_
  refine dwp_region ?_
  refine walk_r rfl rfl rfl (op_move (.inl rfl) (ev1 rfl)) ?_
  refine walk_r rfl rfl rfl (op_len rfl sl37 (ev1 rfl)) ?_
  refine walk_r rfl rfl rfl (op_move (.inl rfl) (ev1 rfl)) ?_
  refine walk_nil ?_
  refine dwp_block ?_
  refine dwp_loopS ⟨hs0, rfl⟩ (α := Nat) (fun k => [(8, .val (.int .i64 (k : Int)))]) [(0, _), (1, _), (7, _)] (fun k => []) [] (fun k => k ≤ l.length ∧ ixU l 0 = ixU (l.drop k) k) (fun k => l.length - k) 0 [] (by simp) rfl ⟨rfl, rfl, rfl, trivial⟩ ⟨rfl, trivial⟩ trivial ?_
  intro k hx
  simp only [upd, List.set_cons_zero, List.set_cons_succ, List.cons_append, List.nil_append]
  obtain ⟨hk, he⟩ := hx
  refine dwp_seq ?_
  refine dwp_region ?_
  refine walk_r rfl rfl rfl (op_lss rfl (ev1 rfl) (ev1 rfl)) ?_
  refine walk_nil ?_
  refine dwp_seq ?_
  refine dwp_cond rfl (fun c1 => ?_) (fun c1 => ?_)
  · try simp only [decide_eq_true_eq, decide_eq_false_iff_not, beq_iff_eq, bne_iff_ne, beq_eq_false_iff_ne, bne_eq_false_iff_eq, Bool.not_eq_true', Bool.not_eq_false', Bool.and_eq_true, Bool.or_eq_true, Bool.or_eq_false_iff, ne_eq, Decidable.not_not, Int.not_lt, Int.not_le] at c1
    refine dwp_skip ?_
    refine dwp_seq ?_
    refine dwp_block ?_
    refine dwp_seq ?_
    refine dwp_region ?_
    refine walk_r rfl rfl rfl (op_move (.inl rfl) (ev1 rfl)) ?_
    refine walk_r rfl rfl rfl (op_move (.inr rfl) (ev1 rfl)) ?_
    refine walk_nil ?_
    refine dwp_seq ?_
    refine dwp_region ?_
    refine walk_r rfl rfl rfl (op_move (.inl rfl) (ev1 rfl)) ?_
    refine walk_r rfl rfl rfl (op_move (.inl rfl) (ev1 rfl)) ?_
    refine walk_r rfl rfl rfl (op_move (.inl rfl) (ev1 rfl)) ?_
    refine walk_r rfl rfl rfl (op_ixsr (j := k) rfl sl37 (ev1 rfl) (ev1 rfl) (fun _ => rfl) (by decide) (by omega) (by omega)) ?_
    refine walk_r rfl rfl rfl (op_ldod rfl tb25 (ev1 rfl) rfl) ?_
    refine walk_r rfl rfl rfl (dop_call [] [] [] rfl (ev1 rfl) (ec (ev1 rfl) en) rfl rfl (see1_d _) rfl rfl rfl rfl rfl rfl) ?_
    refine walk_nil ?_
    refine dwp_cond rfl (fun c2 => ?_) (fun c2 => ?_)
    · try simp only [decide_eq_true_eq, decide_eq_false_iff_not, beq_iff_eq, bne_iff_ne, beq_eq_false_iff_ne, bne_eq_false_iff_eq, Bool.not_eq_true', Bool.not_eq_false', Bool.and_eq_true, Bool.or_eq_true, Bool.or_eq_false_iff, ne_eq, Decidable.not_not, Int.not_lt, Int.not_le] at c2
      refine dwp_seq ?_
      refine dwp_region ?_
      refine walk_r rfl rfl rfl (op_move (.inl rfl) (ev1 rfl)) ?_
      refine walk_r rfl rfl rfl (op_move (.inr rfl) (ev1 rfl)) ?_
      refine walk_nil ?_
      refine dwp_ret ?_
      refine kend0 (rs1 rfl (rv_t rfl)) rfl ?_
      rw [he, ixU_drop (by omega)]; simp_all
    · try simp only [decide_eq_true_eq, decide_eq_false_iff_not, beq_iff_eq, bne_iff_ne, beq_eq_false_iff_ne, bne_eq_false_iff_eq, Bool.not_eq_true', Bool.not_eq_false', Bool.and_eq_true, Bool.or_eq_true, Bool.or_eq_false_iff, ne_eq, Decidable.not_not, Int.not_lt, Int.not_le] at c2
      refine dwp_skip ?_
      refine dwp_region ?_
      refine walk_r rfl rfl rfl (op_add' rfl (ev1 rfl) (ev1 rfl) (fun _ => IntWalk.i64_in _ (by omega))) ?_
      refine walk_r rfl rfl rfl (op_move (.inl rfl) (ev1 rfl)) ?_
      refine walk_nil ?_
      refine ⟨k + 1, [], ⟨by omega, by rw [he, ixU_drop (by omega)]; simp_all⟩, by simp only []; omega, rfl, ⟨rfl, rfl, rfl, rfl, trivial⟩, trivial⟩
  · try simp only [decide_eq_true_eq, decide_eq_false_iff_not, beq_iff_eq, bne_iff_ne, beq_eq_false_iff_ne, bne_eq_false_iff_eq, Bool.not_eq_true', Bool.not_eq_false', Bool.and_eq_true, Bool.or_eq_true, Bool.or_eq_false_iff, ne_eq, Decidable.not_not, Int.not_lt, Int.not_le] at c1
    refine dwp_exit ?_
    refine dwp_seq ?_
    refine dwp_region ?_
    refine walk_r rfl rfl rfl (op_move (.inr rfl) (ev1 rfl)) ?_
    refine walk_nil ?_
    refine dwp_ret ?_
    refine kend0 (rs1 rfl (rv_t rfl)) rfl ?_
    rw [he, List.drop_of_length_le (by omega)]; rfl
set_option maxRecDepth 4000 in
set_option maxHeartbeats 1000000 in
theorem contains_d (l : List Int) : DFun Tryd.prog 44 [rowU l, .fn (.func 45) [] []] [] (.val (.bool (l.any over))) [] := by
  refine dcalls_go (N := 9) 0 (by kernel_rfl) Tryd.func44 rfl rfl rfl (by simp only [fr0, Nat.zero_add, Nat.reduceAdd]; exact rfl) rfl fun s0 hs0 => ?_
  refine dwp_len (t := 0) rfl fun hl0 hL0 => ?_
  refine dwp_seq ?_
  refine dwp_region ?_
  refine walk_r rfl rfl rfl (op_move (.inr rfl) (ev1 rfl)) ?_
  refine walk_nil ?_
  refine dwp_seq ?_
  refine dwp_region ?_
  refine walk_r rfl rfl rfl (op_move (.inl rfl) (ev1 rfl)) ?_
  refine walk_r rfl rfl rfl (op_move (.inl rfl) (ev1 rfl)) ?_
  refine walk_r rfl rfl rfl (dop_call [] [] [] rfl (ev1 rfl) (ec (ev1 rfl) (ec (ev1 rfl) en)) rfl rfl (index_d _) rfl rfl rfl rfl rfl rfl) ?_
  refine walk_r rfl rfl rfl (op_geq rfl (ev1 rfl) (ev1 rfl)) ?_
  refine walk_r rfl rfl rfl (op_move (.inr rfl) (ev1 rfl)) ?_
  refine walk_nil ?_
  refine dwp_ret ?_
  refine kend0 (rs1 rfl (rv_t rfl)) rfl ?_
  rw [← ixU_any l 0]
set_option maxRecDepth 4000 in
set_option maxHeartbeats 1000000 in
theorem see_d (c : C3) (t : Int) : DFun Tryd.prog 46 [.loc 0 0, .val (.int .u64 t)] [.flat 81 (ckc c)] (.tup []) [.flat 81 (ckc ⟨c.s, max c.t t, c.q⟩)] := by
  refine dcalls_go (N := 15) 1 (by kernel_rfl) Tryd.func46 rfl rfl rfl (by simp only [fr0, Nat.zero_add, Nat.reduceAdd]; exact rfl) rfl fun s0 hs0 => ?_
  refine dwp_region ?_
  refine walk_r rfl rfl rfl (op_move (.inl rfl) (ev1 rfl)) ?_
  refine walk_r rfl rfl rfl (op_move (.inl rfl) (ev1 rfl)) ?_
  refine walk_r rfl rfl rfl (op_nc rfl (ev1 rfl) (fun s v h => by cases h; exact ⟨_, rfl⟩)) ?_
  refine walk_r rfl rfl rfl (op_fa rfl fo81_0 (ev1 rfl)) ?_
  refine walk_r rfl rfl rfl (op_fa rfl fo40_1 (ev1 rfl)) ?_
  refine walk_r rfl rfl rfl (op_ldo rfl tb25 (ev1 rfl) rfl rfl) ?_
  refine walk_r rfl rfl rfl (op_move (.inl rfl) (ev1 rfl)) ?_
  refine walk_r rfl rfl rfl (op_max rfl (ev1 rfl) (ev1 rfl)) ?_
  refine walk_r rfl rfl rfl (op_nc rfl (ev1 rfl) (fun s v h => by cases h; exact ⟨_, rfl⟩)) ?_
  refine walk_r rfl rfl rfl (op_fa rfl fo81_0 (ev1 rfl)) ?_
  refine walk_r rfl rfl rfl (op_fa rfl fo40_1 (ev1 rfl)) ?_
  refine walk_s rfl rfl (op_st1 rfl tb25 (ev1 rfl) (ev1 rfl) rfl (Nat.le_of_ble_eq_true rfl) rfl) (by simp only [upd, List.set_cons_zero, List.set_cons_succ]; exact rfl) ?_
  refine walk_nil ?_
  refine kend [0] (res_none rfl) rfl rfl ?_ ⟨rfl, trivial⟩
  rfl
set_option maxRecDepth 4000 in
set_option maxHeartbeats 1000000 in
theorem seeC_d (c : C3) (l : List Int) : DFun Tryd.prog 27 [ckD c, rowU l] [] (.tup [ckD (seeC c l).1, .val (.int .i64 (seeC c l).2)]) [] := by
  refine dcalls_go (N := 35) 0 (by kernel_rfl) Tryd.func27 rfl rfl rfl (by simp only [fr0, Nat.zero_add, Nat.reduceAdd]; exact rfl) rfl fun s0 hs0 => ?_
  refine dwp_len (t := 1) rfl fun hl1 hL1 => ?_
  refine dwp_seq ?_
  refine dwp_holes 2 (by simp only [holes, List.cons_append, List.nil_append]; exact rfl) ?_
  refine dwp_region ?_
  refine walk_w rfl rfl rfl (op_boxa 0 rfl (ev1 rfl) rfl) (by simp only [upd, List.set_cons_zero, List.set_cons_succ]; exact rfl) ?_
  refine walk_w rfl rfl rfl (op_alloc 1 rfl zr40 rfl) (by simp only [upd, List.set_cons_zero, List.set_cons_succ]; exact rfl) ?_
  refine walk_r rfl rfl rfl (op_move (.inr rfl) (ev1 rfl)) ?_
  refine walk_nil ?_
  refine dwp_seq ?_
  refine dwp_seq ?_
  refine dwp_region ?_
  refine walk_r rfl rfl rfl (op_ldw rfl tb40 (ev1 rfl) rfl rfl) ?_
  refine walk_r rfl rfl rfl (dop_call [] [] [] rfl (ev1 rfl) (ec (ev1 rfl) en) rfl rfl (checkClock_d _) rfl rfl rfl rfl rfl rfl) ?_
  refine walk_r rfl rfl rfl (op_move (.inr rfl) (ev1 rfl)) ?_
  refine walk_nil ?_
  refine dwp_seq ?_
  refine dwp_region ?_
  refine walk_r rfl rfl rfl (op_move (.inl rfl) (ev1 rfl)) ?_
  refine walk_r rfl rfl rfl (op_neq rfl (ev1 rfl) (ev1 rfl)) ?_
  refine walk_nil ?_
  refine dwp_cond rfl (fun c1 => ?_) (fun c1 => ?_)
  · try simp only [decide_eq_true_eq, decide_eq_false_iff_not, beq_iff_eq, bne_iff_ne, beq_eq_false_iff_ne, bne_eq_false_iff_eq, Bool.not_eq_true', Bool.not_eq_false', Bool.and_eq_true, Bool.or_eq_true, Bool.or_eq_false_iff, ne_eq, Decidable.not_not, Int.not_lt, Int.not_le] at c1
    have hc : clkR c = false := badE c1
    refine dwp_seq ?_
    refine dwp_region ?_
    refine walk_r rfl rfl rfl (op_build0 rfl fl40 zr40) ?_
    refine walk_r rfl rfl rfl (op_move (.inl rfl) (ev1 rfl)) ?_
    refine walk_s rfl rfl (op_stwa rfl tb40 (ev1 rfl) (ev1 rfl) rfl rfl rfl rfl) (by simp only [upd, List.set_cons_zero, List.set_cons_succ]; exact rfl) ?_
    refine walk_r rfl rfl rfl (op_move (.inr rfl) (ev1 rfl)) ?_
    refine walk_nil ?_
    refine dwp_ret ?_
    refine kend0 (rs2 rfl (rv_w tb40 rfl rfl rfl) (rv_t rfl)) rfl ?_
    simp_all [seeC, errOr, zC]
  · try simp only [decide_eq_true_eq, decide_eq_false_iff_not, beq_iff_eq, bne_iff_ne, beq_eq_false_iff_ne, bne_eq_false_iff_eq, Bool.not_eq_true', Bool.not_eq_false', Bool.and_eq_true, Bool.or_eq_true, Bool.or_eq_false_iff, ne_eq, Decidable.not_not, Int.not_lt, Int.not_le] at c1
    have hc : clkR c = true := okE (by decide) c1
    refine dwp_skip ?_
    refine dwp_seq ?_
    refine dwp_seq ?_
    refine dwp_region ?_
    refine walk_r rfl rfl rfl (op_move (.inl rfl) (ev1 rfl)) ?_
    refine walk_r rfl rfl rfl (dop_call [] [] [] rfl (ev1 rfl) (ec (ev1 rfl) (ec (ev1 rfl) en)) rfl rfl (contains_d _) rfl rfl rfl rfl rfl rfl) ?_
    refine walk_nil ?_
    refine dwp_cond rfl (fun c2 => ?_) (fun c2 => ?_)
    · try simp only [decide_eq_true_eq, decide_eq_false_iff_not, beq_iff_eq, bne_iff_ne, beq_eq_false_iff_ne, bne_eq_false_iff_eq, Bool.not_eq_true', Bool.not_eq_false', Bool.and_eq_true, Bool.or_eq_true, Bool.or_eq_false_iff, ne_eq, Decidable.not_not, Int.not_lt, Int.not_le] at c2
      refine dwp_seq ?_
      refine dwp_region ?_
      refine walk_r rfl rfl rfl (op_build0 rfl fl40 zr40) ?_
      refine walk_s rfl rfl (op_stwa rfl tb40 (ev1 rfl) (ev1 rfl) rfl rfl rfl rfl) (by simp only [upd, List.set_cons_zero, List.set_cons_succ]; exact rfl) ?_
      refine walk_r rfl rfl rfl (op_move (.inr rfl) (ev1 rfl)) ?_
      refine walk_nil ?_
      refine dwp_ret ?_
      refine kend0 (rs2 rfl (rv_w tb40 rfl rfl rfl) (rv_t rfl)) rfl ?_
      simp_all [seeC, errOr, zC]
    · try simp only [decide_eq_true_eq, decide_eq_false_iff_not, beq_iff_eq, bne_iff_ne, beq_eq_false_iff_ne, bne_eq_false_iff_eq, Bool.not_eq_true', Bool.not_eq_false', Bool.and_eq_true, Bool.or_eq_true, Bool.or_eq_false_iff, ne_eq, Decidable.not_not, Int.not_lt, Int.not_le] at c2
      refine dwp_skip ?_
      refine dwp_seq ?_
      refine dwp_holes 1 (by simp only [holes, List.cons_append, List.nil_append]; exact rfl) ?_
      refine dwp_region ?_
      refine walk_r rfl rfl rfl (op_ldw rfl tb40 (ev1 rfl) rfl rfl) ?_
      refine walk_r rfl rfl rfl (op_build (ps := [(0, .tmp 20)]) rfl fl81 zr81 (vc (ev1 rfl) vn) rfl rfl) ?_
      refine walk_w rfl rfl rfl (op_alloc 2 rfl zr81 rfl) (by simp only [upd, List.set_cons_zero, List.set_cons_succ]; exact rfl) ?_
      refine walk_s rfl rfl (op_stwa rfl tb81 (ev1 rfl) (ev1 rfl) rfl rfl rfl rfl) (by simp only [upd, List.set_cons_zero, List.set_cons_succ]; exact rfl) ?_
      refine walk_nil ?_
      refine dwp_seq ?_
      refine dwp_region ?_
      refine walk_r rfl rfl rfl (op_mkf rfl (ec (ev1 rfl) en) en) ?_
      refine walk_r rfl rfl rfl (op_move (.inr rfl) (ev1 rfl)) ?_
      refine walk_nil ?_
      refine dwp_seq ?_
      refine dwp_seq ?_
      refine dwp_region ?_
      refine walk_r rfl rfl rfl (op_move (.inl rfl) (ev1 rfl)) ?_
      refine walk_r rfl rfl rfl (op_len rfl sl37 (ev1 rfl)) ?_
      refine walk_r rfl rfl rfl (op_move (.inl rfl) (ev1 rfl)) ?_
      refine walk_nil ?_
      refine dwp_block ?_
      refine dwp_loopS ⟨hs0, rfl⟩ (α := Nat) (fun k => [(25, .val (.int .i64 (k : Int)))]) [(4, _), (7, _), (8, _), (23, _), (24, _)] (fun k => [(2, .flat 81 (ckc ⟨c.s, maxT c.t (l.take k), c.q⟩))]) [_, _, .hole] (fun k => k ≤ l.length) (fun k => l.length - k) 0 [0, 1, 2] (by simp) rfl ⟨rfl, rfl, rfl, rfl, rfl, trivial⟩ ⟨rfl, trivial⟩ ⟨rfl, rfl, rfl, trivial⟩ ?_
      intro k hx
      simp only [upd, List.set_cons_zero, List.set_cons_succ, List.cons_append, List.nil_append]
      have hk := hx
      refine dwp_seq ?_
      refine dwp_region ?_
      refine walk_r rfl rfl rfl (op_lss rfl (ev1 rfl) (ev1 rfl)) ?_
      refine walk_nil ?_
      refine dwp_seq ?_
      refine dwp_cond rfl (fun c3 => ?_) (fun c3 => ?_)
      · try simp only [decide_eq_true_eq, decide_eq_false_iff_not, beq_iff_eq, bne_iff_ne, beq_eq_false_iff_ne, bne_eq_false_iff_eq, Bool.not_eq_true', Bool.not_eq_false', Bool.and_eq_true, Bool.or_eq_true, Bool.or_eq_false_iff, ne_eq, Decidable.not_not, Int.not_lt, Int.not_le] at c3
        refine dwp_skip ?_
        refine dwp_seq ?_
        refine dwp_block ?_
        refine dwp_seq ?_
        refine dwp_region ?_
        refine walk_r rfl rfl rfl (op_ixsr (j := k) rfl sl37 (ev1 rfl) (ev1 rfl) (fun _ => rfl) (by decide) (by omega) (by omega)) ?_
        refine walk_r rfl rfl rfl (op_ldod rfl tb25 (ev1 rfl) rfl) ?_
        refine walk_r rfl rfl rfl (op_move (.inr rfl) (ev1 rfl)) ?_
        refine walk_nil ?_
        refine dwp_region ?_
        refine walk_r rfl rfl rfl (op_move (.inl rfl) (ev1 rfl)) ?_
        refine walk_r rfl rfl rfl (op_move (.inl rfl) (ev1 rfl)) ?_
        refine walk_w rfl rfl rfl (dop_call [2] [] [] rfl (ev1 rfl) (ec (ev1 rfl) en) rfl rfl (see_d _ _) rfl rfl rfl rfl rfl rfl) (by simp only [upd, List.set_cons_zero, List.set_cons_succ]; exact rfl) ?_
        refine walk_nil ?_
        refine dwp_region ?_
        refine walk_r rfl rfl rfl (op_add' rfl (ev1 rfl) (ev1 rfl) (fun _ => IntWalk.i64_in _ (by omega))) ?_
        refine walk_r rfl rfl rfl (op_move (.inl rfl) (ev1 rfl)) ?_
        refine walk_nil ?_
        refine ⟨k + 1, [0, 1, 2], by omega, by simp only []; omega, rfl, ⟨rfl, rfl, rfl, rfl, rfl, rfl, trivial⟩, ⟨rfl, rfl, by rw [maxT_take (by omega)]; rfl, trivial⟩⟩
      · try simp only [decide_eq_true_eq, decide_eq_false_iff_not, beq_iff_eq, bne_iff_ne, beq_eq_false_iff_ne, bne_eq_false_iff_eq, Bool.not_eq_true', Bool.not_eq_false', Bool.and_eq_true, Bool.or_eq_true, Bool.or_eq_false_iff, ne_eq, Decidable.not_not, Int.not_lt, Int.not_le] at c3
        refine dwp_exit ?_
        refine dwp_seq ?_
        refine dwp_region ?_
        refine walk_r rfl rfl rfl (op_fa rfl fo81_0 (ev1 rfl)) ?_
        refine walk_r rfl rfl rfl (op_ldw rfl tb40 (ev1 rfl) rfl rfl) ?_
        refine walk_s rfl rfl (op_stwa rfl tb40 (ev1 rfl) (ev1 rfl) rfl rfl rfl rfl) (by simp only [upd, List.set_cons_zero, List.set_cons_succ]; exact rfl) ?_
        refine walk_r rfl rfl rfl (op_move (.inr rfl) (ev1 rfl)) ?_
        refine walk_nil ?_
        refine dwp_ret ?_
        refine kend0 (rs2 rfl (rv_w tb40 rfl rfl rfl) (rv_t rfl)) rfl ?_
        have e : l.take k = l := List.take_of_length_le (by omega)
        rw [e]
        simp only [seeC, hc, c2, if_true, Bool.false_eq_true, if_false]
        rfl
end Go.Proofs.YtaekkjhpdendoaaDoor
