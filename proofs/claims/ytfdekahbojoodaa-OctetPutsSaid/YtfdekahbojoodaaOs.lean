/- the law of orders, walked -/
import Derived.Test.YtfdekahbojoodaaOr
namespace Go.Proofs.Ytfdekahbojoodaa
set_option linter.unusedVariables false
set_option linter.unusedSimpArgs false
open Go.RowKit

theorem fitsN_iff {w : Nat} {n : Int} (hw : 1 ≤ w ∧ w ≤ 8) (hn : 0 ≤ n ∧ n ≤ 18446744073709551615) : fitsN w n = true ↔ n < 256 ^ w := by
  have : w = 1 ∨ w = 2 ∨ w = 3 ∨ w = 4 ∨ w = 5 ∨ w = 6 ∨ w = 7 ∨ w = 8 := by omega
  rcases this with rfl | rfl | rfl | rfl | rfl | rfl | rfl | rfl <;> simp [fitsN] <;> omega
theorem order_fin {w : Nat} {a b : Int} (hw : 1 ≤ w ∧ w ≤ 8) (ha : 0 ≤ a ∧ a ≤ 18446744073709551615) (hb : 0 ≤ b ∧ b ≤ 18446744073709551615) (fa : fitsN w a = true) (fb : fitsN w b = true) :
    decide (cmpL (bytesN w a) (bytesN w b) < 0) = decide (a < b) ∧ decide (cmpL (bytesN w a) (bytesN w b) = 0) = decide (a = b) := by
  obtain ⟨a, rfl⟩ := Int.eq_ofNat_of_zero_le ha.1
  obtain ⟨b, rfl⟩ := Int.eq_ofNat_of_zero_le hb.1
  have h1 := (fitsN_iff hw ha).1 fa
  have h2 := (fitsN_iff hw hb).1 fb
  have e : ((256 : Int) ^ w) = ((256 ^ w : Nat) : Int) := by rw [Int.natCast_pow]; rfl
  rw [e] at h1 h2
  obtain ⟨q1, q2⟩ := cmp_layR a b w
  rw [Nat.mod_eq_of_lt (by omega), Nat.mod_eq_of_lt (by omega)] at q1 q2
  rw [bytes_lay _ w hw, bytes_lay _ w hw]
  exact ⟨decide_eq_decide.2 (q1.trans (by omega)), decide_eq_decide.2 (q2.trans (by omega))⟩

set_option maxRecDepth 4000 in
set_option maxHeartbeats 1000000 in
theorem ord_w (w a b : Int) (h : isW w = false) : DFun Try.prog 6 [.val (.int .i64 w), .val (.int .u64 a), .val (.int .u64 b)] [] (.val (.bool true)) [] := by
  refine dcalls_go (N := 77) 0 (by kernel_rfl) Try.func6 rfl rfl rfl (by simp only [fr0, Nat.zero_add, Nat.reduceAdd]; exact rfl) rfl fun s0 hs0 => ?_
  refine dwp_seq ?_
  refine dwp_region ?_
  refine walk_r rfl rfl rfl (op_move (.inr rfl) (ev1 rfl)) ?_
  refine walk_nil ?_
  refine dwp_seq ?_
  refine dwp_seq ?_
  refine dwp_region ?_
  refine walk_r rfl rfl rfl (dop_call [] [] [] rfl (ev1 rfl) en rfl rfl (wakes_d) rfl rfl rfl rfl rfl rfl) ?_
  refine walk_r rfl rfl rfl (op_not rfl (ev1 rfl)) ?_
  refine walk_nil ?_
  refine dwp_if_f rfl (rfl) ?_
  refine dwp_skip ?_
  refine dwp_seq ?_
  refine dwp_region ?_
  refine walk_r rfl rfl rfl (op_move (.inl rfl) (ev1 rfl)) ?_
  refine walk_r rfl rfl rfl (op_move (.inl rfl) (ev1 rfl)) ?_
  refine walk_r rfl rfl rfl (dop_call [] [] [] rfl (ev1 rfl) (ec (evnil 1 (ev1 rfl)) (ec (ev1 rfl) (ec (ev1 rfl) en))) rfl rfl (wk_nil2 (sz := 1) (put_w [] w a h)) rfl rfl rfl rfl rfl rfl) ?_
  refine walk_r rfl rfl rfl (op_move (.inl rfl) (ev1 rfl)) ?_
  refine walk_r rfl rfl rfl (op_ext rfl (ev1 rfl) rfl) ?_
  refine walk_r rfl rfl rfl (op_ext rfl (ev1 rfl) rfl) ?_
  refine walk_r rfl rfl rfl (op_move (.inr rfl) (ev1 rfl)) ?_
  refine walk_r rfl rfl rfl (op_move (.inr rfl) (ev1 rfl)) ?_
  refine walk_nil ?_
  refine dwp_seq ?_
  refine dwp_region ?_
  refine walk_r rfl rfl rfl (op_move (.inl rfl) (ev1 rfl)) ?_
  refine walk_r rfl rfl rfl (op_move (.inl rfl) (ev1 rfl)) ?_
  refine walk_r rfl rfl rfl (dop_call [] [] [] rfl (ev1 rfl) (ec (evnil 1 (ev1 rfl)) (ec (ev1 rfl) (ec (ev1 rfl) en))) rfl rfl (wk_nil2 (sz := 1) (put_w [] w b h)) rfl rfl rfl rfl rfl rfl) ?_
  refine walk_r rfl rfl rfl (op_move (.inl rfl) (ev1 rfl)) ?_
  refine walk_r rfl rfl rfl (op_ext rfl (ev1 rfl) rfl) ?_
  refine walk_r rfl rfl rfl (op_ext rfl (ev1 rfl) rfl) ?_
  refine walk_r rfl rfl rfl (op_move (.inr rfl) (ev1 rfl)) ?_
  refine walk_r rfl rfl rfl (op_move (.inr rfl) (ev1 rfl)) ?_
  refine walk_nil ?_
  refine dwp_seq ?_
  refine dwp_seq ?_
  refine dwp_region ?_
  refine walk_r rfl rfl rfl (op_move (.inl rfl) (ev1 rfl)) ?_
  refine walk_r rfl rfl rfl (op_neq rfl (ev1 rfl) (ev1 rfl)) ?_
  refine walk_r rfl rfl rfl (op_move (.inl rfl) (ev1 rfl)) ?_
  refine walk_gr (gd_f rfl rfl rfl) rfl rfl rfl (op_move (.inl rfl) (ev1 rfl)) ?_
  refine walk_gr (gd_f rfl rfl rfl) rfl rfl rfl (op_neq rfl (ev2 rfl) (ev1 rfl)) ?_
  refine walk_r rfl rfl rfl (op_or rfl (ev1 rfl) (ev3 rfl id)) ?_
  refine walk_nil ?_
  refine dwp_if_t rfl (rfl) ?_
  refine dwp_seq ?_
  refine dwp_region ?_
  refine walk_r rfl rfl rfl (op_move (.inl rfl) (ev1 rfl)) ?_
  refine walk_r rfl rfl rfl (op_neq rfl (ev1 rfl) (ev1 rfl)) ?_
  refine walk_r rfl rfl rfl (op_move (.inl rfl) (ev1 rfl)) ?_
  refine walk_gr (gd_t rfl rfl rfl) rfl rfl rfl (op_move (.inl rfl) (ev1 rfl)) ?_
  refine walk_gr (gd_t rfl rfl rfl) rfl rfl rfl (op_len rfl sl22 (ev2 rfl)) ?_
  refine walk_gr (gd_t rfl rfl rfl) rfl rfl rfl (op_eql rfl (ev2 rfl) (ev1 rfl)) ?_
  refine walk_r rfl rfl rfl (op_and rfl (ev1 rfl) (ev3 rfl id)) ?_
  refine walk_r rfl rfl rfl (op_move (.inl rfl) (ev1 rfl)) ?_
  refine walk_gr (gd_f rfl rfl rfl) rfl rfl rfl (op_move (.inl rfl) (ev1 rfl)) ?_
  refine walk_gr (gd_f rfl rfl rfl) rfl rfl rfl (op_neq rfl (ev2 rfl) (ev1 rfl)) ?_
  refine walk_gr (gd_f rfl rfl rfl) rfl rfl rfl (op_move (.inl rfl) (ev2 rfl)) ?_
  refine walk_gr (gd_tt rfl rfl rfl) rfl rfl rfl (op_move (.inl rfl) (ev1 rfl)) ?_
  refine walk_gr (gd_tt rfl rfl rfl) rfl rfl rfl (op_len rfl sl22 (ev2 rfl)) ?_
  refine walk_gr (gd_tt rfl rfl rfl) rfl rfl rfl (op_eql rfl (ev2 rfl) (ev1 rfl)) ?_
  refine walk_gr (gd_f rfl rfl rfl) rfl rfl rfl (op_and rfl (ev2 rfl) (ev2 rfl)) ?_
  refine walk_r rfl rfl rfl (op_or rfl (ev1 rfl) (ev3 rfl id)) ?_
  refine walk_r rfl rfl rfl (op_move (.inr rfl) (ev1 rfl)) ?_
  refine walk_nil ?_
  refine dwp_ret ?_
  refine kend0 (rs1 rfl (rv_t rfl)) rfl ?_
  rfl

set_option maxRecDepth 4000 in
set_option maxHeartbeats 1000000 in
theorem ord_a (w : Nat) (a b : Int) (h : 1 ≤ w ∧ w ≤ 8) (fa : fitsN w a = false) (fb : fitsN w b = true) : DFun Try.prog 6 [.val (.int .i64 (w : Int)), .val (.int .u64 a), .val (.int .u64 b)] [] (.val (.bool true)) [] := by
  refine dcalls_go (N := 77) 0 (by kernel_rfl) Try.func6 rfl rfl rfl (by simp only [fr0, Nat.zero_add, Nat.reduceAdd]; exact rfl) rfl fun s0 hs0 => ?_
  refine dwp_seq ?_
  refine dwp_region ?_
  refine walk_r rfl rfl rfl (op_move (.inr rfl) (ev1 rfl)) ?_
  refine walk_nil ?_
  refine dwp_seq ?_
  refine dwp_seq ?_
  refine dwp_region ?_
  refine walk_r rfl rfl rfl (dop_call [] [] [] rfl (ev1 rfl) en rfl rfl (wakes_d) rfl rfl rfl rfl rfl rfl) ?_
  refine walk_r rfl rfl rfl (op_not rfl (ev1 rfl)) ?_
  refine walk_nil ?_
  refine dwp_if_f rfl (rfl) ?_
  refine dwp_skip ?_
  refine dwp_seq ?_
  refine dwp_region ?_
  refine walk_r rfl rfl rfl (op_move (.inl rfl) (ev1 rfl)) ?_
  refine walk_r rfl rfl rfl (op_move (.inl rfl) (ev1 rfl)) ?_
  refine walk_r rfl rfl rfl (dop_call [] [] [] rfl (ev1 rfl) (ec (evnil 1 (ev1 rfl)) (ec (ev1 rfl) (ec (ev1 rfl) en))) rfl rfl (wk_nil2 (sz := 1) (put_big [] w a h fa)) rfl rfl rfl rfl rfl rfl) ?_
  refine walk_r rfl rfl rfl (op_move (.inl rfl) (ev1 rfl)) ?_
  refine walk_r rfl rfl rfl (op_ext rfl (ev1 rfl) rfl) ?_
  refine walk_r rfl rfl rfl (op_ext rfl (ev1 rfl) rfl) ?_
  refine walk_r rfl rfl rfl (op_move (.inr rfl) (ev1 rfl)) ?_
  refine walk_r rfl rfl rfl (op_move (.inr rfl) (ev1 rfl)) ?_
  refine walk_nil ?_
  refine dwp_seq ?_
  refine dwp_region ?_
  refine walk_r rfl rfl rfl (op_move (.inl rfl) (ev1 rfl)) ?_
  refine walk_r rfl rfl rfl (op_move (.inl rfl) (ev1 rfl)) ?_
  refine walk_r rfl rfl rfl (dop_call [] [] [] rfl (ev1 rfl) (ec (evnil 1 (ev1 rfl)) (ec (ev1 rfl) (ec (ev1 rfl) en))) rfl rfl (put_ok [] w b (by decide) h fb) rfl rfl rfl rfl rfl rfl) ?_
  refine walk_r rfl rfl rfl (op_move (.inl rfl) (ev1 rfl)) ?_
  refine walk_r rfl rfl rfl (op_ext rfl (ev1 rfl) rfl) ?_
  refine walk_r rfl rfl rfl (op_ext rfl (ev1 rfl) rfl) ?_
  refine walk_r rfl rfl rfl (op_move (.inr rfl) (ev1 rfl)) ?_
  refine walk_r rfl rfl rfl (op_move (.inr rfl) (ev1 rfl)) ?_
  refine walk_nil ?_
  refine dwp_seq ?_
  refine dwp_seq ?_
  refine dwp_region ?_
  refine walk_r rfl rfl rfl (op_move (.inl rfl) (ev1 rfl)) ?_
  refine walk_r rfl rfl rfl (op_neq rfl (ev1 rfl) (ev1 rfl)) ?_
  refine walk_r rfl rfl rfl (op_move (.inl rfl) (ev1 rfl)) ?_
  refine walk_gr (gd_f rfl rfl rfl) rfl rfl rfl (op_move (.inl rfl) (ev1 rfl)) ?_
  refine walk_gr (gd_f rfl rfl rfl) rfl rfl rfl (op_neq rfl (ev2 rfl) (ev1 rfl)) ?_
  refine walk_r rfl rfl rfl (op_or rfl (ev1 rfl) (ev3 rfl id)) ?_
  refine walk_nil ?_
  refine dwp_if_t rfl (rfl) ?_
  refine dwp_seq ?_
  refine dwp_region ?_
  refine walk_r rfl rfl rfl (op_move (.inl rfl) (ev1 rfl)) ?_
  refine walk_r rfl rfl rfl (op_neq rfl (ev1 rfl) (ev1 rfl)) ?_
  refine walk_r rfl rfl rfl (op_move (.inl rfl) (ev1 rfl)) ?_
  refine walk_gr (gd_t rfl rfl rfl) rfl rfl rfl (op_move (.inl rfl) (ev1 rfl)) ?_
  refine walk_gr (gd_t rfl rfl rfl) rfl rfl rfl (op_len rfl sl22 (ev2 rfl)) ?_
  refine walk_gr (gd_t rfl rfl rfl) rfl rfl rfl (op_eql rfl (ev2 rfl) (ev1 rfl)) ?_
  refine walk_r rfl rfl rfl (op_and rfl (ev1 rfl) (ev3 rfl id)) ?_
  refine walk_r rfl rfl rfl (op_move (.inl rfl) (ev1 rfl)) ?_
  refine walk_gr (gd_f rfl rfl rfl) rfl rfl rfl (op_move (.inl rfl) (ev1 rfl)) ?_
  refine walk_gr (gd_f rfl rfl rfl) rfl rfl rfl (op_neq rfl (ev2 rfl) (ev1 rfl)) ?_
  refine walk_gr (gd_f rfl rfl rfl) rfl rfl rfl (op_move (.inl rfl) (ev2 rfl)) ?_
  refine walk_gr (gd_tt rfl rfl rfl) rfl rfl rfl (op_move (.inl rfl) (ev1 rfl)) ?_
  refine walk_gr (gd_tt rfl rfl rfl) rfl rfl rfl (op_len rfl sl22 (ev2 rfl)) ?_
  refine walk_gr (gd_tt rfl rfl rfl) rfl rfl rfl (op_eql rfl (ev2 rfl) (ev1 rfl)) ?_
  refine walk_gr (gd_f rfl rfl rfl) rfl rfl rfl (op_and rfl (ev2 rfl) (ev2 rfl)) ?_
  refine walk_r rfl rfl rfl (op_or rfl (ev1 rfl) (ev3 rfl id)) ?_
  refine walk_r rfl rfl rfl (op_move (.inr rfl) (ev1 rfl)) ?_
  refine walk_nil ?_
  refine dwp_ret ?_
  refine kend0 (rs1 rfl (rv_t rfl)) rfl ?_
  rfl

set_option maxRecDepth 4000 in
set_option maxHeartbeats 1000000 in
theorem ord_ab (w : Nat) (a b : Int) (h : 1 ≤ w ∧ w ≤ 8) (fa : fitsN w a = false) (fb : fitsN w b = false) : DFun Try.prog 6 [.val (.int .i64 (w : Int)), .val (.int .u64 a), .val (.int .u64 b)] [] (.val (.bool true)) [] := by
  refine dcalls_go (N := 77) 0 (by kernel_rfl) Try.func6 rfl rfl rfl (by simp only [fr0, Nat.zero_add, Nat.reduceAdd]; exact rfl) rfl fun s0 hs0 => ?_
  refine dwp_seq ?_
  refine dwp_region ?_
  refine walk_r rfl rfl rfl (op_move (.inr rfl) (ev1 rfl)) ?_
  refine walk_nil ?_
  refine dwp_seq ?_
  refine dwp_seq ?_
  refine dwp_region ?_
  refine walk_r rfl rfl rfl (dop_call [] [] [] rfl (ev1 rfl) en rfl rfl (wakes_d) rfl rfl rfl rfl rfl rfl) ?_
  refine walk_r rfl rfl rfl (op_not rfl (ev1 rfl)) ?_
  refine walk_nil ?_
  refine dwp_if_f rfl (rfl) ?_
  refine dwp_skip ?_
  refine dwp_seq ?_
  refine dwp_region ?_
  refine walk_r rfl rfl rfl (op_move (.inl rfl) (ev1 rfl)) ?_
  refine walk_r rfl rfl rfl (op_move (.inl rfl) (ev1 rfl)) ?_
  refine walk_r rfl rfl rfl (dop_call [] [] [] rfl (ev1 rfl) (ec (evnil 1 (ev1 rfl)) (ec (ev1 rfl) (ec (ev1 rfl) en))) rfl rfl (wk_nil2 (sz := 1) (put_big [] w a h fa)) rfl rfl rfl rfl rfl rfl) ?_
  refine walk_r rfl rfl rfl (op_move (.inl rfl) (ev1 rfl)) ?_
  refine walk_r rfl rfl rfl (op_ext rfl (ev1 rfl) rfl) ?_
  refine walk_r rfl rfl rfl (op_ext rfl (ev1 rfl) rfl) ?_
  refine walk_r rfl rfl rfl (op_move (.inr rfl) (ev1 rfl)) ?_
  refine walk_r rfl rfl rfl (op_move (.inr rfl) (ev1 rfl)) ?_
  refine walk_nil ?_
  refine dwp_seq ?_
  refine dwp_region ?_
  refine walk_r rfl rfl rfl (op_move (.inl rfl) (ev1 rfl)) ?_
  refine walk_r rfl rfl rfl (op_move (.inl rfl) (ev1 rfl)) ?_
  refine walk_r rfl rfl rfl (dop_call [] [] [] rfl (ev1 rfl) (ec (evnil 1 (ev1 rfl)) (ec (ev1 rfl) (ec (ev1 rfl) en))) rfl rfl (wk_nil2 (sz := 1) (put_big [] w b h fb)) rfl rfl rfl rfl rfl rfl) ?_
  refine walk_r rfl rfl rfl (op_move (.inl rfl) (ev1 rfl)) ?_
  refine walk_r rfl rfl rfl (op_ext rfl (ev1 rfl) rfl) ?_
  refine walk_r rfl rfl rfl (op_ext rfl (ev1 rfl) rfl) ?_
  refine walk_r rfl rfl rfl (op_move (.inr rfl) (ev1 rfl)) ?_
  refine walk_r rfl rfl rfl (op_move (.inr rfl) (ev1 rfl)) ?_
  refine walk_nil ?_
  refine dwp_seq ?_
  refine dwp_seq ?_
  refine dwp_region ?_
  refine walk_r rfl rfl rfl (op_move (.inl rfl) (ev1 rfl)) ?_
  refine walk_r rfl rfl rfl (op_neq rfl (ev1 rfl) (ev1 rfl)) ?_
  refine walk_r rfl rfl rfl (op_move (.inl rfl) (ev1 rfl)) ?_
  refine walk_gr (gd_f rfl rfl rfl) rfl rfl rfl (op_move (.inl rfl) (ev1 rfl)) ?_
  refine walk_gr (gd_f rfl rfl rfl) rfl rfl rfl (op_neq rfl (ev2 rfl) (ev1 rfl)) ?_
  refine walk_r rfl rfl rfl (op_or rfl (ev1 rfl) (ev3 rfl id)) ?_
  refine walk_nil ?_
  refine dwp_if_t rfl (rfl) ?_
  refine dwp_seq ?_
  refine dwp_region ?_
  refine walk_r rfl rfl rfl (op_move (.inl rfl) (ev1 rfl)) ?_
  refine walk_r rfl rfl rfl (op_neq rfl (ev1 rfl) (ev1 rfl)) ?_
  refine walk_r rfl rfl rfl (op_move (.inl rfl) (ev1 rfl)) ?_
  refine walk_gr (gd_t rfl rfl rfl) rfl rfl rfl (op_move (.inl rfl) (ev1 rfl)) ?_
  refine walk_gr (gd_t rfl rfl rfl) rfl rfl rfl (op_len rfl sl22 (ev2 rfl)) ?_
  refine walk_gr (gd_t rfl rfl rfl) rfl rfl rfl (op_eql rfl (ev2 rfl) (ev1 rfl)) ?_
  refine walk_r rfl rfl rfl (op_and rfl (ev1 rfl) (ev3 rfl id)) ?_
  refine walk_r rfl rfl rfl (op_move (.inl rfl) (ev1 rfl)) ?_
  refine walk_gr (gd_f rfl rfl rfl) rfl rfl rfl (op_move (.inl rfl) (ev1 rfl)) ?_
  refine walk_gr (gd_f rfl rfl rfl) rfl rfl rfl (op_neq rfl (ev2 rfl) (ev1 rfl)) ?_
  refine walk_gr (gd_f rfl rfl rfl) rfl rfl rfl (op_move (.inl rfl) (ev2 rfl)) ?_
  refine walk_gr (gd_tt rfl rfl rfl) rfl rfl rfl (op_move (.inl rfl) (ev1 rfl)) ?_
  refine walk_gr (gd_tt rfl rfl rfl) rfl rfl rfl (op_len rfl sl22 (ev2 rfl)) ?_
  refine walk_gr (gd_tt rfl rfl rfl) rfl rfl rfl (op_eql rfl (ev2 rfl) (ev1 rfl)) ?_
  refine walk_gr (gd_f rfl rfl rfl) rfl rfl rfl (op_and rfl (ev2 rfl) (ev2 rfl)) ?_
  refine walk_r rfl rfl rfl (op_or rfl (ev1 rfl) (ev3 rfl id)) ?_
  refine walk_r rfl rfl rfl (op_move (.inr rfl) (ev1 rfl)) ?_
  refine walk_nil ?_
  refine dwp_ret ?_
  refine kend0 (rs1 rfl (rv_t rfl)) rfl ?_
  rfl

set_option maxRecDepth 4000 in
set_option maxHeartbeats 1000000 in
theorem ord_b (w : Nat) (a b : Int) (h : 1 ≤ w ∧ w ≤ 8) (fa : fitsN w a = true) (fb : fitsN w b = false) : DFun Try.prog 6 [.val (.int .i64 (w : Int)), .val (.int .u64 a), .val (.int .u64 b)] [] (.val (.bool true)) [] := by
  refine dcalls_go (N := 77) 0 (by kernel_rfl) Try.func6 rfl rfl rfl (by simp only [fr0, Nat.zero_add, Nat.reduceAdd]; exact rfl) rfl fun s0 hs0 => ?_
  refine dwp_seq ?_
  refine dwp_region ?_
  refine walk_r rfl rfl rfl (op_move (.inr rfl) (ev1 rfl)) ?_
  refine walk_nil ?_
  refine dwp_seq ?_
  refine dwp_seq ?_
  refine dwp_region ?_
  refine walk_r rfl rfl rfl (dop_call [] [] [] rfl (ev1 rfl) en rfl rfl (wakes_d) rfl rfl rfl rfl rfl rfl) ?_
  refine walk_r rfl rfl rfl (op_not rfl (ev1 rfl)) ?_
  refine walk_nil ?_
  refine dwp_if_f rfl (rfl) ?_
  refine dwp_skip ?_
  refine dwp_seq ?_
  refine dwp_region ?_
  refine walk_r rfl rfl rfl (op_move (.inl rfl) (ev1 rfl)) ?_
  refine walk_r rfl rfl rfl (op_move (.inl rfl) (ev1 rfl)) ?_
  refine walk_r rfl rfl rfl (dop_call [] [] [] rfl (ev1 rfl) (ec (evnil 1 (ev1 rfl)) (ec (ev1 rfl) (ec (ev1 rfl) en))) rfl rfl (put_ok [] w a (by decide) h fa) rfl rfl rfl rfl rfl rfl) ?_
  refine walk_r rfl rfl rfl (op_move (.inl rfl) (ev1 rfl)) ?_
  refine walk_r rfl rfl rfl (op_ext rfl (ev1 rfl) rfl) ?_
  refine walk_r rfl rfl rfl (op_ext rfl (ev1 rfl) rfl) ?_
  refine walk_r rfl rfl rfl (op_move (.inr rfl) (ev1 rfl)) ?_
  refine walk_r rfl rfl rfl (op_move (.inr rfl) (ev1 rfl)) ?_
  refine walk_nil ?_
  refine dwp_seq ?_
  refine dwp_region ?_
  refine walk_r rfl rfl rfl (op_move (.inl rfl) (ev1 rfl)) ?_
  refine walk_r rfl rfl rfl (op_move (.inl rfl) (ev1 rfl)) ?_
  refine walk_r rfl rfl rfl (dop_call [] [] [] rfl (ev1 rfl) (ec (evnil 1 (ev1 rfl)) (ec (ev1 rfl) (ec (ev1 rfl) en))) rfl rfl (wk_nil2 (sz := 1) (put_big [] w b h fb)) rfl rfl rfl rfl rfl rfl) ?_
  refine walk_r rfl rfl rfl (op_move (.inl rfl) (ev1 rfl)) ?_
  refine walk_r rfl rfl rfl (op_ext rfl (ev1 rfl) rfl) ?_
  refine walk_r rfl rfl rfl (op_ext rfl (ev1 rfl) rfl) ?_
  refine walk_r rfl rfl rfl (op_move (.inr rfl) (ev1 rfl)) ?_
  refine walk_r rfl rfl rfl (op_move (.inr rfl) (ev1 rfl)) ?_
  refine walk_nil ?_
  refine dwp_seq ?_
  refine dwp_seq ?_
  refine dwp_region ?_
  refine walk_r rfl rfl rfl (op_move (.inl rfl) (ev1 rfl)) ?_
  refine walk_r rfl rfl rfl (op_neq rfl (ev1 rfl) (ev1 rfl)) ?_
  refine walk_r rfl rfl rfl (op_move (.inl rfl) (ev1 rfl)) ?_
  refine walk_gr (gd_f rfl rfl rfl) rfl rfl rfl (op_move (.inl rfl) (ev1 rfl)) ?_
  refine walk_gr (gd_f rfl rfl rfl) rfl rfl rfl (op_neq rfl (ev2 rfl) (ev1 rfl)) ?_
  refine walk_r rfl rfl rfl (op_or rfl (ev1 rfl) (ev3 rfl id)) ?_
  refine walk_nil ?_
  refine dwp_if_t rfl (rfl) ?_
  refine dwp_seq ?_
  refine dwp_region ?_
  refine walk_r rfl rfl rfl (op_move (.inl rfl) (ev1 rfl)) ?_
  refine walk_r rfl rfl rfl (op_neq rfl (ev1 rfl) (ev1 rfl)) ?_
  refine walk_r rfl rfl rfl (op_move (.inl rfl) (ev1 rfl)) ?_
  refine walk_gr (gd_t rfl rfl rfl) rfl rfl rfl (op_move (.inl rfl) (ev1 rfl)) ?_
  refine walk_gr (gd_t rfl rfl rfl) rfl rfl rfl (op_len rfl sl22 (ev2 rfl)) ?_
  refine walk_gr (gd_t rfl rfl rfl) rfl rfl rfl (op_eql rfl (ev2 rfl) (ev1 rfl)) ?_
  refine walk_r rfl rfl rfl (op_and rfl (ev1 rfl) (ev3 rfl id)) ?_
  refine walk_r rfl rfl rfl (op_move (.inl rfl) (ev1 rfl)) ?_
  refine walk_gr (gd_f rfl rfl rfl) rfl rfl rfl (op_move (.inl rfl) (ev1 rfl)) ?_
  refine walk_gr (gd_f rfl rfl rfl) rfl rfl rfl (op_neq rfl (ev2 rfl) (ev1 rfl)) ?_
  refine walk_gr (gd_f rfl rfl rfl) rfl rfl rfl (op_move (.inl rfl) (ev2 rfl)) ?_
  refine walk_gr (gd_tt rfl rfl rfl) rfl rfl rfl (op_move (.inl rfl) (ev1 rfl)) ?_
  refine walk_gr (gd_tt rfl rfl rfl) rfl rfl rfl (op_len rfl sl22 (ev2 rfl)) ?_
  refine walk_gr (gd_tt rfl rfl rfl) rfl rfl rfl (op_eql rfl (ev2 rfl) (ev1 rfl)) ?_
  refine walk_gr (gd_f rfl rfl rfl) rfl rfl rfl (op_and rfl (ev2 rfl) (ev2 rfl)) ?_
  refine walk_r rfl rfl rfl (op_or rfl (ev1 rfl) (ev3 rfl id)) ?_
  refine walk_r rfl rfl rfl (op_move (.inr rfl) (ev1 rfl)) ?_
  refine walk_nil ?_
  refine dwp_ret ?_
  refine kend0 (rs1 rfl (rv_t rfl)) rfl ?_
  rfl

set_option maxRecDepth 4000 in
set_option maxHeartbeats 1000000 in
theorem ord_ok (w : Nat) (a b : Int) (h : 1 ≤ w ∧ w ≤ 8) (ha : 0 ≤ a ∧ a ≤ 18446744073709551615) (hb : 0 ≤ b ∧ b ≤ 18446744073709551615) (fa : fitsN w a = true) (fb : fitsN w b = true) : DFun Try.prog 6 [.val (.int .i64 (w : Int)), .val (.int .u64 a), .val (.int .u64 b)] [] (.val (.bool true)) [] := by
  refine dcalls_go (N := 77) 0 (by kernel_rfl) Try.func6 rfl rfl rfl (by simp only [fr0, Nat.zero_add, Nat.reduceAdd]; exact rfl) rfl fun s0 hs0 => ?_
  refine dwp_seq ?_
  refine dwp_region ?_
  refine walk_r rfl rfl rfl (op_move (.inr rfl) (ev1 rfl)) ?_
  refine walk_nil ?_
  refine dwp_seq ?_
  refine dwp_seq ?_
  refine dwp_region ?_
  refine walk_r rfl rfl rfl (dop_call [] [] [] rfl (ev1 rfl) en rfl rfl (wakes_d) rfl rfl rfl rfl rfl rfl) ?_
  refine walk_r rfl rfl rfl (op_not rfl (ev1 rfl)) ?_
  refine walk_nil ?_
  refine dwp_if_f rfl (rfl) ?_
  refine dwp_skip ?_
  refine dwp_seq ?_
  refine dwp_region ?_
  refine walk_r rfl rfl rfl (op_move (.inl rfl) (ev1 rfl)) ?_
  refine walk_r rfl rfl rfl (op_move (.inl rfl) (ev1 rfl)) ?_
  refine walk_r rfl rfl rfl (dop_call [] [] [] rfl (ev1 rfl) (ec (evnil 1 (ev1 rfl)) (ec (ev1 rfl) (ec (ev1 rfl) en))) rfl rfl (put_ok [] w a (by decide) h fa) rfl rfl rfl rfl rfl rfl) ?_
  refine walk_r rfl rfl rfl (op_move (.inl rfl) (ev1 rfl)) ?_
  refine walk_r rfl rfl rfl (op_ext rfl (ev1 rfl) rfl) ?_
  refine walk_r rfl rfl rfl (op_ext rfl (ev1 rfl) rfl) ?_
  refine walk_r rfl rfl rfl (op_move (.inr rfl) (ev1 rfl)) ?_
  refine walk_r rfl rfl rfl (op_move (.inr rfl) (ev1 rfl)) ?_
  refine walk_nil ?_
  refine dwp_seq ?_
  refine dwp_region ?_
  refine walk_r rfl rfl rfl (op_move (.inl rfl) (ev1 rfl)) ?_
  refine walk_r rfl rfl rfl (op_move (.inl rfl) (ev1 rfl)) ?_
  refine walk_r rfl rfl rfl (dop_call [] [] [] rfl (ev1 rfl) (ec (evnil 1 (ev1 rfl)) (ec (ev1 rfl) (ec (ev1 rfl) en))) rfl rfl (put_ok [] w b (by decide) h fb) rfl rfl rfl rfl rfl rfl) ?_
  refine walk_r rfl rfl rfl (op_move (.inl rfl) (ev1 rfl)) ?_
  refine walk_r rfl rfl rfl (op_ext rfl (ev1 rfl) rfl) ?_
  refine walk_r rfl rfl rfl (op_ext rfl (ev1 rfl) rfl) ?_
  refine walk_r rfl rfl rfl (op_move (.inr rfl) (ev1 rfl)) ?_
  refine walk_r rfl rfl rfl (op_move (.inr rfl) (ev1 rfl)) ?_
  refine walk_nil ?_
  refine dwp_seq ?_
  refine dwp_seq ?_
  refine dwp_region ?_
  refine walk_r rfl rfl rfl (op_move (.inl rfl) (ev1 rfl)) ?_
  refine walk_r rfl rfl rfl (op_neq rfl (ev1 rfl) (ev1 rfl)) ?_
  refine walk_r rfl rfl rfl (op_move (.inl rfl) (ev1 rfl)) ?_
  refine walk_gr (gd_f rfl rfl rfl) rfl rfl rfl (op_move (.inl rfl) (ev1 rfl)) ?_
  refine walk_gr (gd_f rfl rfl rfl) rfl rfl rfl (op_neq rfl (ev2 rfl) (ev1 rfl)) ?_
  refine walk_r rfl rfl rfl (op_or rfl (ev1 rfl) (ev3 rfl id)) ?_
  refine walk_nil ?_
  refine dwp_if_f rfl (rfl) ?_
  refine dwp_skip ?_
  refine dwp_seq ?_
  refine dwp_region ?_
  refine walk_r rfl rfl rfl (op_move (.inl rfl) (ev1 rfl)) ?_
  refine walk_r rfl rfl rfl (op_move (.inl rfl) (ev1 rfl)) ?_
  refine walk_r rfl rfl rfl (dop_call [] [] [] rfl (ev1 rfl) (ec (ev1 rfl) (ec (ev1 rfl) en)) rfl rfl (compare_d _ _) rfl rfl rfl rfl rfl rfl) ?_
  refine walk_r rfl rfl rfl (op_move (.inr rfl) (ev1 rfl)) ?_
  refine walk_nil ?_
  refine dwp_seq ?_
  refine dwp_region ?_
  refine walk_r rfl rfl rfl (op_move (.inl rfl) (ev1 rfl)) ?_
  refine walk_r rfl rfl rfl (op_len rfl sl22 (ev1 rfl)) ?_
  refine walk_r rfl rfl rfl (op_move (.inl rfl) (ev1 rfl)) ?_
  refine walk_r rfl rfl rfl (op_eql rfl (ev1 rfl) (ev1 rfl)) ?_
  refine walk_r rfl rfl rfl (op_move (.inl rfl) (ev1 rfl)) ?_
  refine walk_gr (gd_t rfl rfl rfl) rfl rfl rfl (op_move (.inl rfl) (ev1 rfl)) ?_
  refine walk_gr (gd_t rfl rfl rfl) rfl rfl rfl (op_len rfl sl22 (ev2 rfl)) ?_
  refine walk_gr (gd_t rfl rfl rfl) rfl rfl rfl (op_move (.inl rfl) (ev1 rfl)) ?_
  refine walk_gr (gd_t rfl rfl rfl) rfl rfl rfl (op_eql rfl (ev2 rfl) (ev2 rfl)) ?_
  refine walk_r rfl rfl rfl (op_and rfl (ev1 rfl) (ev3 rfl id)) ?_
  refine walk_r rfl rfl rfl (op_move (.inl rfl) (ev1 rfl)) ?_
  refine walk_gr (gd_t rfl rfl rfl) rfl rfl rfl (op_move (.inl rfl) (ev1 rfl)) ?_
  refine walk_gr (gd_t rfl rfl rfl) rfl rfl rfl (op_lss rfl (ev2 rfl) (ev1 rfl)) ?_
  refine walk_gr (gd_t rfl rfl rfl) rfl rfl rfl (op_move (.inl rfl) (ev1 rfl)) ?_
  refine walk_gr (gd_t rfl rfl rfl) rfl rfl rfl (op_move (.inl rfl) (ev1 rfl)) ?_
  refine walk_gr (gd_t rfl rfl rfl) rfl rfl rfl (op_lss rfl (ev2 rfl) (ev2 rfl)) ?_
  refine walk_gr (gd_t rfl rfl rfl) rfl rfl rfl (op_eqb rfl un4 (ev2 rfl) (ev2 rfl)) ?_
  refine walk_r rfl rfl rfl (op_and rfl (ev1 rfl) (ev3 rfl id)) ?_
  refine walk_r rfl rfl rfl (op_move (.inl rfl) (ev1 rfl)) ?_
  refine walk_gr (gd_t rfl rfl rfl) rfl rfl rfl (op_move (.inl rfl) (ev1 rfl)) ?_
  refine walk_gr (gd_t rfl rfl rfl) rfl rfl rfl (op_eql rfl (ev2 rfl) (ev1 rfl)) ?_
  refine walk_gr (gd_t rfl rfl rfl) rfl rfl rfl (op_move (.inl rfl) (ev1 rfl)) ?_
  refine walk_gr (gd_t rfl rfl rfl) rfl rfl rfl (op_move (.inl rfl) (ev1 rfl)) ?_
  refine walk_gr (gd_t rfl rfl rfl) rfl rfl rfl (op_eql rfl (ev2 rfl) (ev2 rfl)) ?_
  refine walk_gr (gd_t rfl rfl rfl) rfl rfl rfl (op_eqb rfl un4 (ev2 rfl) (ev2 rfl)) ?_
  refine walk_r rfl rfl rfl (op_and rfl (ev1 rfl) (ev3 rfl id)) ?_
  refine walk_r rfl rfl rfl (op_move (.inr rfl) (ev1 rfl)) ?_
  refine walk_nil ?_
  refine dwp_ret ?_
  refine kend0 (rs1 rfl (rv_t rfl)) rfl ?_
  have hl := bytesN_len (w := w) (n := a) h.2
  have hl2 := bytesN_len (w := w) (n := b) h.2
  obtain ⟨q1, q2⟩ := order_fin h ha hb fa fb
  simp [hl, hl2, q1]
  exact q2

theorem orders_d (w a b : Int) (ha : 0 ≤ a ∧ a ≤ 18446744073709551615) (hb : 0 ≤ b ∧ b ≤ 18446744073709551615) : DFun Try.prog 6 [.val (.int .i64 w), .val (.int .u64 a), .val (.int .u64 b)] [] (.val (.bool true)) [] := by
  by_cases h : isW w = true
  · obtain ⟨h1, h2⟩ := isW_iff.1 h
    obtain ⟨n, rfl⟩ := Int.eq_ofNat_of_zero_le (show 0 ≤ w by omega)
    have hn : 1 ≤ n ∧ n ≤ 8 := by omega
    by_cases fa : fitsN n a = true
    · by_cases fb : fitsN n b = true
      · exact ord_ok n a b hn ha hb fa fb
      · exact ord_b n a b hn fa (by simpa using fb)
    · by_cases fb : fitsN n b = true
      · exact ord_a n a b hn (by simpa using fa) fb
      · exact ord_ab n a b hn (by simpa using fa) (by simpa using fb)
  · exact ord_w w a b (by simpa using h)

end Go.Proofs.Ytfdekahbojoodaa
