/- what the document asks: numbers -/
import Derived.Test.YtfdekahbojoodaaOk
namespace Go.Proofs.Ytfdekahbojoodaa
set_option linter.unusedVariables false
set_option linter.unusedSimpArgs false
open Go.RowKit

set_option maxRecDepth 4000 in
set_option maxHeartbeats 1000000 in
theorem refFits_d (w : Nat) (n : Int) (hn : 0 ≤ n ∧ n ≤ 18446744073709551615) (hw : w ≤ 8) : DFun Try.prog 12 [.val (.int .i64 (w : Int)), .val (.int .u64 n)] [] (.val (.bool (decide (n / 256 ^ w = 0)))) [] := by
  refine dcalls_go (N := 13) 0 (by kernel_rfl) Try.func12 rfl rfl rfl (by simp only [fr0, Nat.zero_add, Nat.reduceAdd]; exact rfl) rfl fun s0 hs0 => ?_
  refine dwp_seq ?_
  refine dwp_region ?_
  refine walk_r rfl rfl rfl (op_move (.inr rfl) (ev1 rfl)) ?_
  refine walk_nil ?_
  refine dwp_seq ?_
  refine dwp_seq ?_
  refine dwp_region ?_
  refine walk_r rfl rfl rfl (op_move (.inl rfl) (ev1 rfl)) ?_
  refine walk_r rfl rfl rfl (op_move (.inl rfl) (ev1 rfl)) ?_
  refine walk_nil ?_
  refine dwp_block ?_
  refine dwp_loopS ⟨hs0, rfl⟩ (α := Nat) (fun k => [(1, .val (.int .u64 (n / 256 ^ k))), (6, .val (.int .i64 (k : Int)))]) [(5, _)] (fun k => []) [] (fun k => k ≤ w) (fun k => w - k) 0 [] (by simp) rfl ⟨rfl, trivial⟩ ⟨congrArg (fun z => some (D.val (Value.int .u64 z))) (by simp), rfl, trivial⟩ trivial ?_
  intro k hx
  simp only [upd, List.set_cons_zero, List.set_cons_succ, List.cons_append, List.nil_append]
  have hk := hx
  have hq := div_bd hn.1 k
  refine dwp_seq ?_
  refine dwp_region ?_
  refine walk_r rfl rfl rfl (op_lss rfl (ev1 rfl) (ev1 rfl)) ?_
  refine walk_nil ?_
  refine dwp_seq ?_
  refine dwp_cond rfl (fun c1 => ?_) (fun c1 => ?_)
  · try simp only [decide_eq_true_eq, decide_eq_false_iff_not, beq_iff_eq, bne_iff_ne, beq_eq_false_iff_ne, bne_eq_false_iff_eq, Bool.not_eq_true', Bool.not_eq_false', Bool.and_eq_true, Bool.or_eq_true, Bool.or_eq_false_iff, ne_eq, Decidable.not_not, Int.not_lt, Int.not_le] at c1
    refine dwp_skip ?_
    refine dwp_seq ?_
    refine dwp_block ?_
    refine dwp_region ?_
    refine walk_r rfl rfl rfl (op_move (.inl rfl) (ev1 rfl)) ?_
    refine walk_r rfl rfl rfl (op_quo' rfl (ev1 rfl) (ev1 rfl) (fun _ => ⟨by omega, by omega, IntWalk.u64_in _ (by omega)⟩)) ?_
    refine walk_r rfl rfl rfl (op_move (.inr rfl) (ev1 rfl)) ?_
    refine walk_nil ?_
    refine dwp_region ?_
    refine walk_r rfl rfl rfl (op_add' rfl (ev1 rfl) (ev1 rfl) (fun _ => IntWalk.i64_in _ (by omega))) ?_
    refine walk_r rfl rfl rfl (op_move (.inl rfl) (ev1 rfl)) ?_
    refine walk_nil ?_
    refine ⟨k + 1, [], by omega, by simp only []; omega, rfl, ⟨congrArg (fun z => some (D.val (Value.int .u64 z))) (by rw [Int.pow_succ, Int.ediv_ediv_of_nonneg (Int.le_of_lt (Int.pow_pos (by decide)))]), rfl, rfl, trivial⟩, trivial⟩
  · try simp only [decide_eq_true_eq, decide_eq_false_iff_not, beq_iff_eq, bne_iff_ne, beq_eq_false_iff_ne, bne_eq_false_iff_eq, Bool.not_eq_true', Bool.not_eq_false', Bool.and_eq_true, Bool.or_eq_true, Bool.or_eq_false_iff, ne_eq, Decidable.not_not, Int.not_lt, Int.not_le] at c1
    refine dwp_exit ?_
    refine dwp_seq ?_
    refine dwp_region ?_
    refine walk_r rfl rfl rfl (op_move (.inl rfl) (ev1 rfl)) ?_
    refine walk_r rfl rfl rfl (op_eql rfl (ev1 rfl) (ev1 rfl)) ?_
    refine walk_r rfl rfl rfl (op_move (.inr rfl) (ev1 rfl)) ?_
    refine walk_nil ?_
    refine dwp_ret ?_
    refine kend0 (rs1 rfl (rv_t rfl)) rfl ?_
    rw [show k = w by omega]
    rfl

set_option maxRecDepth 4000 in
set_option maxHeartbeats 1000000 in
theorem refBehind_o (a b : List Int) (h : a.length + b.length ≤ 100000) : DFun Try.prog 13 [.slf 1 (a).length ((a).flatMap uc8), .slf 1 (b).length ((b).flatMap uc8)] [] (.arr 0) [.arr 5 1 (a ++ b).length ((a ++ b).flatMap uc8)] := by
  refine dcalls_go (N := 10) 0 (by kernel_rfl) Try.func13 rfl rfl rfl (by simp only [fr0, Nat.zero_add, Nat.reduceAdd]; exact rfl) rfl fun s0 hs0 => ?_
  refine dwp_len (t := 0) rfl fun hl0 hL0 => ?_
  refine dwp_len (t := 1) rfl fun hl1 hL1 => ?_
  refine dwp_seq ?_
  refine dwp_region ?_
  refine walk_r rfl rfl rfl (op_move (.inr rfl) (ev1 rfl)) ?_
  refine walk_nil ?_
  refine dwp_seq ?_
  refine dwp_holes 3 (by simp only [holes, List.cons_append, List.nil_append]; exact rfl) ?_
  refine dwp_region ?_
  refine walk_w rfl rfl rfl (op_bsa (ps := []) 0 rfl sl22 zr5 rfl vn rfl (by decide) (by decide) rfl) (by simp only [upd, List.set_cons_zero, List.set_cons_succ]; exact rfl) ?_
  refine walk_r rfl rfl rfl (op_move (.inl rfl) (ev1 rfl)) ?_
  refine walk_w rfl rfl rfl (op_app (j := 1) rfl sl22 zr5 rfl (ev1 rfl) (ev1 rfl) src_slf rfl rfl (fun _ => flat_oc (fun _ => rfl) _) (fun _ => ⟨by omega, by omega⟩)) (by simp only [upd, List.set_cons_zero, List.set_cons_succ]; exact rfl) ?_
  refine walk_r rfl rfl rfl (op_move (.inl rfl) (ev1 rfl)) ?_
  refine walk_w rfl rfl rfl (op_app (j := 2) rfl sl22 zr5 rfl (ev1 rfl) (ev1 rfl) src_slf rfl rfl (fun _ => flat_oc (fun _ => rfl) _) (fun _ => ⟨by omega, by omega⟩)) (by simp only [upd, List.set_cons_zero, List.set_cons_succ]; exact rfl) ?_
  refine walk_r rfl rfl rfl (op_move (.inr rfl) (ev1 rfl)) ?_
  refine walk_nil ?_
  refine dwp_ret ?_
  refine kend [2] (rs1 rfl (rv_t rfl)) rfl rfl ?_ ⟨?_, trivial⟩
  rfl
  exact arr_eq (by simp) (by simp)

set_option maxRecDepth 4000 in
set_option maxHeartbeats 1000000 in
theorem refLay_o (w : Nat) (n : Int) (hn : 0 ≤ n ∧ n ≤ 18446744073709551615) (hw : w ≤ 8) : DFun Try.prog 14 [.val (.int .i64 (w : Int)), .val (.int .u64 n)] [] (.arr 0) [.arr 5 1 (layR n w).length ((layR n w).flatMap uc8)] := by
  refine dcalls_go (N := 19) 0 (by kernel_rfl) Try.func14 rfl rfl rfl (by simp only [fr0, Nat.zero_add, Nat.reduceAdd]; exact rfl) rfl fun s0 hs0 => ?_
  refine dwp_seq ?_
  refine dwp_region ?_
  refine walk_r rfl rfl rfl (op_move (.inr rfl) (ev1 rfl)) ?_
  refine walk_nil ?_
  refine dwp_seq ?_
  refine dwp_region ?_
  refine walk_r rfl rfl rfl (op_move (.inr rfl) (ev1 rfl)) ?_
  refine walk_nil ?_
  refine dwp_seq ?_
  refine dwp_seq ?_
  refine dwp_region ?_
  refine walk_r rfl rfl rfl (op_move (.inl rfl) (ev1 rfl)) ?_
  refine walk_r rfl rfl rfl (op_move (.inl rfl) (ev1 rfl)) ?_
  refine walk_nil ?_
  refine dwp_block ?_
  refine dwp_adopt 5 5 1 rfl rfl rfl ?_
  refine dwp_loopS ⟨hs0, rfl⟩ (α := Nat) (fun k => [(1, .val (.int .u64 (n / 256 ^ k))), (7, .val (.int .i64 (k : Int)))]) [(5, _), (6, _)] (fun k => [(0, .arr 5 1 (layR n k).length ((layR n k).flatMap uc8))]) [.hole] (fun k => k ≤ w) (fun k => w - k) 0 [0] (by simp) rfl ⟨rfl, rfl, trivial⟩ ⟨congrArg (fun z => some (D.val (Value.int .u64 z))) (by simp), rfl, trivial⟩ ⟨rfl, trivial⟩ ?_
  intro k hx
  simp only [upd, List.set_cons_zero, List.set_cons_succ, List.cons_append, List.nil_append]
  have hk := hx
  have hq := div_bd hn.1 k
  have hll := layR_len n k
  refine dwp_seq ?_
  refine dwp_region ?_
  refine walk_r rfl rfl rfl (op_lss rfl (ev1 rfl) (ev1 rfl)) ?_
  refine walk_nil ?_
  refine dwp_seq ?_
  refine dwp_cond rfl (fun c1 => ?_) (fun c1 => ?_)
  · try simp only [decide_eq_true_eq, decide_eq_false_iff_not, beq_iff_eq, bne_iff_ne, beq_eq_false_iff_ne, bne_eq_false_iff_eq, Bool.not_eq_true', Bool.not_eq_false', Bool.and_eq_true, Bool.or_eq_true, Bool.or_eq_false_iff, ne_eq, Decidable.not_not, Int.not_lt, Int.not_le] at c1
    refine dwp_skip ?_
    refine dwp_seq ?_
    refine dwp_block ?_
    refine dwp_seq ?_
    refine dwp_holes 2 (by simp only [holes, List.cons_append, List.nil_append]; exact rfl) ?_
    refine dwp_region ?_
    refine walk_r rfl rfl rfl (op_move (.inl rfl) (ev1 rfl)) ?_
    refine walk_r rfl rfl rfl (op_rem' rfl (ev1 rfl) (ev1 rfl) (fun _ => ⟨by omega, by omega⟩)) ?_
    refine walk_r rfl rfl rfl (op_conv ty26 kn5 rfl (ev1 rfl)) ?_
    refine walk_w rfl rfl rfl (op_bsa (ps := [(0, .tmp 11)]) 1 rfl sl22 zr5 rfl (vc (ev1 rfl) vn) rfl (by decide) (by decide) rfl) (by simp only [upd, List.set_cons_zero, List.set_cons_succ]; exact rfl) ?_
    refine walk_r rfl rfl rfl (op_move (.inl rfl) (ev1 rfl)) ?_
    refine walk_w rfl rfl rfl (op_app (j := 2) rfl sl22 zr5 rfl (ev1 rfl) (ev1 rfl) (src_arr rfl) rfl rfl (fun _ => flat_oc (fun _ => rfl) _) (fun _ => ⟨by omega, by omega⟩)) (by simp only [upd, List.set_cons_zero, List.set_cons_succ]; exact rfl) ?_
    refine walk_r rfl rfl rfl (op_move (.inr rfl) (ev1 rfl)) ?_
    refine walk_nil ?_
    refine dwp_region ?_
    refine walk_r rfl rfl rfl (op_move (.inl rfl) (ev1 rfl)) ?_
    refine walk_r rfl rfl rfl (op_quo' rfl (ev1 rfl) (ev1 rfl) (fun _ => ⟨by omega, by omega, IntWalk.u64_in _ (by omega)⟩)) ?_
    refine walk_r rfl rfl rfl (op_move (.inr rfl) (ev1 rfl)) ?_
    refine walk_nil ?_
    refine dwp_region ?_
    refine walk_r rfl rfl rfl (op_add' rfl (ev1 rfl) (ev1 rfl) (fun _ => IntWalk.i64_in _ (by omega))) ?_
    refine walk_r rfl rfl rfl (op_move (.inl rfl) (ev1 rfl)) ?_
    refine walk_nil ?_
    refine ⟨k + 1, [2], by omega, by simp only []; omega, rfl, ⟨congrArg (fun z => some (D.val (Value.int .u64 z))) (by rw [Int.pow_succ, Int.ediv_ediv_of_nonneg (Int.le_of_lt (Int.pow_pos (by decide)))]), rfl, rfl, rfl, trivial⟩, ⟨arr_eq (by simp [layR]; omega) (by simp [layR, Value.cells, uc8]), trivial⟩⟩
  · try simp only [decide_eq_true_eq, decide_eq_false_iff_not, beq_iff_eq, bne_iff_ne, beq_eq_false_iff_ne, bne_eq_false_iff_eq, Bool.not_eq_true', Bool.not_eq_false', Bool.and_eq_true, Bool.or_eq_true, Bool.or_eq_false_iff, ne_eq, Decidable.not_not, Int.not_lt, Int.not_le] at c1
    refine dwp_exit ?_
    refine dwp_seq ?_
    refine dwp_region ?_
    refine walk_r rfl rfl rfl (op_move (.inl rfl) (ev1 rfl)) ?_
    refine walk_r rfl rfl rfl (op_move (.inr rfl) (ev1 rfl)) ?_
    refine walk_nil ?_
    refine dwp_ret ?_
    obtain rfl : k = w := by omega
    refine kend [0] (rs1 rfl (rv_t rfl)) rfl rfl ?_ ⟨rfl, trivial⟩
    rfl

theorem layR_head (a w : Nat) : layR (a : Int) (w + 1) = ((a / 256 ^ w % 256 : Nat) : Int) :: layR (a : Int) w := by
  rw [layR]
  congr 1
  have e : ((a : Int) / 256 ^ w % 256) = ((a / 256 ^ w % 256 : Nat) : Int) := by
    rw [Int.natCast_emod, Int.natCast_ediv, Int.natCast_pow]; rfl
  rw [e]
  exact IntWalk.u8_in _ (by omega)
theorem cmp_layR (a b : Nat) : ∀ w : Nat, (cmpL (layR (a : Int) w) (layR (b : Int) w) < 0 ↔ a % 256 ^ w < b % 256 ^ w) ∧ (cmpL (layR (a : Int) w) (layR (b : Int) w) = 0 ↔ a % 256 ^ w = b % 256 ^ w)
  | 0 => by
    have e : cmpL (layR (a : Int) 0) (layR (b : Int) 0) = 0 := rfl
    rw [e, Nat.pow_zero, Nat.mod_one, Nat.mod_one]
    exact ⟨⟨fun h => absurd h (by decide), fun h => absurd h (by decide)⟩, ⟨fun _ => rfl, fun _ => rfl⟩⟩
  | w + 1 => by
    obtain ⟨h1, h2⟩ := cmp_layR a b w
    rw [layR_head, layR_head, cmpL, Nat.pow_succ, Nat.mod_mul, Nat.mod_mul]
    have ha : a % 256 ^ w < 256 ^ w := Nat.mod_lt _ (Nat.pow_pos (by decide))
    have hb : b % 256 ^ w < 256 ^ w := Nat.mod_lt _ (Nat.pow_pos (by decide))
    generalize a / 256 ^ w % 256 = x at *
    generalize b / 256 ^ w % 256 = y at *
    generalize a % 256 ^ w = r at *
    generalize b % 256 ^ w = s at *
    generalize 256 ^ w = m at *
    rcases Nat.lt_trichotomy x y with h | h | h
    · have e : cmpI (x : Int) y = -1 := by unfold cmpI; rw [if_pos (by omega)]
      have h3 : m * x + m ≤ m * y := by
        have := Nat.mul_le_mul_left m (show x + 1 ≤ y from h)
        rwa [Nat.mul_add, Nat.mul_one] at this
      rw [e, if_pos (by decide)]
      constructor
      · exact ⟨fun _ => by omega, fun _ => by decide⟩
      · exact ⟨fun q => absurd q (by decide), fun q => by omega⟩
    · subst h
      have e : cmpI (x : Int) x = 0 := by unfold cmpI; rw [if_neg (by omega), if_neg (by omega)]
      rw [e, if_neg (by simp)]
      exact ⟨h1.trans (by omega), h2.trans (by omega)⟩
    · have e : cmpI (x : Int) y = 1 := by unfold cmpI; rw [if_neg (by omega), if_pos (by omega)]
      have h3 : m * y + m ≤ m * x := by
        have := Nat.mul_le_mul_left m (show y + 1 ≤ x from h)
        rwa [Nat.mul_add, Nat.mul_one] at this
      rw [e, if_pos (by decide)]
      constructor
      · exact ⟨fun q => by omega, fun q => by omega⟩
      · exact ⟨fun q => by omega, fun q => by omega⟩
theorem bytes_lay (n : Int) : ∀ w : Nat, 1 ≤ w ∧ w ≤ 8 → bytesN w n = layR n w := by
  intro w hw
  have wr : ∀ x : Int, IntKind.u8.wrap x = IntKind.u8.wrap (x % 256) := fun x => by rw [IntKind.wrap_u8, IntKind.wrap_u8]; omega
  have : w = 1 ∨ w = 2 ∨ w = 3 ∨ w = 4 ∨ w = 5 ∨ w = 6 ∨ w = 7 ∨ w = 8 := by omega
  rcases this with rfl | rfl | rfl | rfl | rfl | rfl | rfl | rfl <;> simp [bytesN, lowN, layR, ← wr]

end Go.Proofs.Ytfdekahbojoodaa
