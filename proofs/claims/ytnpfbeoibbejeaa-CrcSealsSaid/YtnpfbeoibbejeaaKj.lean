/- what the document asks: words -/
import Derived.Test.YtnpfbeoibbejeaaKi
namespace Go.Proofs.Ytnpfbeoibbejeaa
set_option linter.unusedVariables false
set_option linter.unusedSimpArgs false
open Go.RowKit

def sr (a k : Nat) : Nat := a >>> k
theorem sr_zero (a : Nat) : sr a 0 = a := rfl
theorem sr_lt {a : Nat} (h : a < 2 ^ 32) (k : Nat) : sr a k < 2 ^ 32 := by rw [sr, Nat.shiftRight_eq_div_pow]; exact Nat.lt_of_le_of_lt (Nat.div_le_self _ _) h
theorem shr_succ (a k : Nat) : ((sr a k : Nat) : Int) / 2 = ((sr a (k + 1) : Nat) : Int) := by
  have : sr a (k + 1) = sr a k / 2 := Nat.shiftRight_succ _ _
  omega
theorem bit_xor (a b k : Nat) : sr (a ^^^ b) k % 2 = (sr a k % 2 + sr b k % 2) % 2 := by
  unfold sr
  rw [Nat.shiftRight_xor_distrib, mod2_xor]
theorem modp_succ (x k : Nat) : x % 2 ^ (k + 1) = x % 2 ^ k + 2 ^ k * (sr x k % 2) := by
  rw [Nat.mod_pow_succ, sr, Nat.shiftRight_eq_div_pow]
theorem pow_u32 {k : Nat} (h : k < 32) : (2 ^ k : Nat) < 4294967296 := Nat.lt_of_le_of_lt (Nat.pow_le_pow_right (n := 2) (by decide) (show k ≤ 31 by omega)) (by decide)
theorem by_step {k : Nat} (h : k < 32) : IntKind.u32.wrap (2 * ((2 ^ k % 4294967296 : Nat) : Int)) = ((2 ^ (k + 1) % 4294967296 : Nat) : Int) := by
  rw [Nat.mod_eq_of_lt (pow_u32 h), IntKind.wrap_u32, Nat.pow_succ]
  have := pow_u32 h
  omega
theorem out_t {a b k : Nat} (hk : k < 32) (h : ((sr a k : Nat) : Int) % 2 ≠ ((sr b k : Nat) : Int) % 2) : IntKind.u32.wrap ((((a ^^^ b) % 2 ^ k : Nat) : Int) + ((2 ^ k % 4294967296 : Nat) : Int)) = (((a ^^^ b) % 2 ^ (k + 1) : Nat) : Int) := by
  have e := bit_xor a b k
  have h1 : sr (a ^^^ b) k % 2 = 1 := by omega
  have h2 := pow_u32 hk
  have h3 : (a ^^^ b) % 2 ^ (k + 1) < 2 ^ (k + 1) := Nat.mod_lt _ (Nat.pow_pos (by decide))
  have h4 : (a ^^^ b) % 2 ^ k < 2 ^ k := Nat.mod_lt _ (Nat.pow_pos (by decide))
  have h5 : (2 : Nat) ^ k ≤ 2147483648 := Nat.pow_le_pow_right (n := 2) (by decide) (show k ≤ 31 by omega)
  rw [modp_succ, h1, Nat.mul_one, Nat.mod_eq_of_lt h2, IntWalk.u32_in _ (by omega)]
  omega
theorem out_f {a b k : Nat} (h : ((sr a k : Nat) : Int) % 2 = ((sr b k : Nat) : Int) % 2) : (a ^^^ b) % 2 ^ k = (a ^^^ b) % 2 ^ (k + 1) := by
  have e := bit_xor a b k
  have h1 : sr (a ^^^ b) k % 2 = 0 := by omega
  rw [modp_succ, h1, Nat.mul_zero, Nat.add_zero]
theorem trn_sub {n : Nat} (h : n < 2 ^ 32) : (4294967295 : Int) - (n : Int) = (trn n : Nat) := by
  have e : trn n = 4294967295 - n := by
    refine Nat.eq_of_testBit_eq fun i => ?_
    have h1 := Nat.testBit_two_pow_sub_succ h i
    rw [show 2 ^ 32 - (n + 1) = 4294967295 - n by omega] at h1
    rw [h1, trn, Nat.testBit_xor, show ones = 2 ^ 32 - 1 from rfl, Nat.testBit_two_pow_sub_one]
    by_cases hi : i < 32
    · simp [hi]
    · have : n.testBit i = false := Nat.testBit_lt_two_pow (Nat.lt_of_lt_of_le h (Nat.pow_le_pow_right (n := 2) (by decide) (by omega)))
      simp [hi, this]
  rw [e]; omega
theorem top_iff {n : Nat} (h : n < 2 ^ 32) : n >>> 31 = 1 ↔ (2147483648 : Int) ≤ n := by
  rw [Nat.shiftRight_eq_div_pow]; omega
theorem back_t {n : Nat} (h : n >>> 31 = 1) : IntKind.u32.wrap (IntKind.u32.wrap (2 * ((n ^^^ PL : Nat) : Int)) + 1) = (Wr n : Nat) := by
  have h2 := top_xor' h
  rw [IntWalk.u32_in (2 * _) (by omega), IntWalk.u32_in _ (by omega), Wr_top h, Nat.shiftLeft_eq]
  omega
theorem back_f {n : Nat} (h : ¬ n >>> 31 = 1) (hn : n < 2 ^ 32) : IntKind.u32.wrap (2 * (n : Int)) = (Wr n : Nat) := by
  have := doubled_f h hn
  rw [← this]; congr 1; omega

set_option maxRecDepth 4000 in
set_option maxHeartbeats 1000000 in
theorem xor_r (a b : Nat) (ha : a < 2 ^ 32) (hb : b < 2 ^ 32) : DFun Try.prog 40 [.val (.int .u32 ((a : Nat) : Int)), .val (.int .u32 ((b : Nat) : Int))] [] (.val (.int .u32 ((a ^^^ b : Nat) : Int))) [] := by
  refine dcalls_go (N := 25) 0 (by kernel_rfl) Try.func40 rfl rfl rfl (by simp only [fr0, Nat.zero_add, Nat.reduceAdd]; exact rfl) rfl fun s0 hs0 => ?_
  refine dwp_seq ?_
  refine dwp_region ?_
  refine walk_r rfl rfl rfl (op_move (.inr rfl) (ev1 rfl)) ?_
  refine walk_nil ?_
  refine dwp_seq ?_
  refine dwp_region ?_
  refine walk_r rfl rfl rfl (op_move (.inr rfl) (ev1 rfl)) ?_
  refine walk_r rfl rfl rfl (op_move (.inr rfl) (ev1 rfl)) ?_
  refine walk_nil ?_
  refine dwp_seq ?_
  refine dwp_seq ?_
  refine dwp_region ?_
  refine walk_r rfl rfl rfl (op_move (.inl rfl) (ev1 rfl)) ?_
  refine walk_nil ?_
  refine dwp_block ?_
  refine dwp_loopS ⟨hs0, rfl⟩ (α := Nat) (fun k => [(0, .val (.int .u32 ((sr a k : Nat) : Int))), (1, .val (.int .u32 ((sr b k : Nat) : Int))), (5, .val (.int .u32 (((a ^^^ b) % 2 ^ k : Nat) : Int))), (6, .val (.int .u32 ((2 ^ k % 4294967296 : Nat) : Int))), (7, .val (.int .i64 (k : Int)))]) [] (fun k => []) [] (fun k => k ≤ 32) (fun k => 32 - k) 0 [] (by simp) rfl trivial ⟨rfl, rfl, congrArg (fun z => some (D.val (Value.int .u32 z))) (by rw [Nat.pow_zero, Nat.mod_one]; rfl), rfl, rfl, trivial⟩ trivial ?_
  intro k hx
  simp only [upd, List.set_cons_zero, List.set_cons_succ, List.cons_append, List.nil_append]
  have hk := hx
  have hak := sr_lt ha k
  have hbk := sr_lt hb k
  refine dwp_seq ?_
  refine dwp_region ?_
  refine walk_r rfl rfl rfl (op_lss rfl (ev1 rfl) (ev1 rfl)) ?_
  refine walk_nil ?_
  refine dwp_seq ?_
  refine dwp_cond rfl (fun c1 => ?_) (fun c1 => ?_)
  · try simp only [decide_eq_true_eq, decide_eq_false_iff_not, beq_iff_eq, bne_iff_ne, beq_eq_false_iff_ne, bne_eq_false_iff_eq, Bool.not_eq_true', Bool.not_eq_false', Bool.and_eq_true, Bool.or_eq_true, Bool.or_eq_false_iff, ne_eq, Decidable.not_not, Int.not_lt, Int.not_le] at c1
    refine dwp_skip ?_
    refine dwp_seq ?_
    refine dwp_block ?_
    refine dwp_seq ?_
    refine dwp_seq ?_
    refine dwp_region ?_
    refine walk_r rfl rfl rfl (op_move (.inl rfl) (ev1 rfl)) ?_
    refine walk_r rfl rfl rfl (op_rem' rfl (ev1 rfl) (ev1 rfl) (fun _ => ⟨by omega, by omega⟩)) ?_
    refine walk_r rfl rfl rfl (op_move (.inl rfl) (ev1 rfl)) ?_
    refine walk_r rfl rfl rfl (op_rem' rfl (ev1 rfl) (ev1 rfl) (fun _ => ⟨by omega, by omega⟩)) ?_
    refine walk_r rfl rfl rfl (op_neq rfl (ev1 rfl) (ev1 rfl)) ?_
    refine walk_nil ?_
    refine dwp_cond rfl (fun hd0 => ?_) (fun hd0 => ?_)
    · have hd : ((sr a k : Nat) : Int) % 2 ≠ ((sr b k : Nat) : Int) % 2 := by simpa using hd0
      refine dwp_region ?_
      refine walk_r rfl rfl rfl (op_move (.inl rfl) (ev1 rfl)) ?_
      refine walk_r rfl rfl rfl (op_move (.inl rfl) (ev1 rfl)) ?_
      refine walk_r rfl rfl rfl (op_add rfl (ev1 rfl) (ev1 rfl)) ?_
      refine walk_r rfl rfl rfl (op_move (.inr rfl) (ev1 rfl)) ?_
      refine walk_nil ?_
      refine dwp_region ?_
      refine walk_r rfl rfl rfl (op_move (.inl rfl) (ev1 rfl)) ?_
      refine walk_r rfl rfl rfl (op_quo' rfl (ev1 rfl) (ev1 rfl) (fun _ => ⟨by omega, by omega, IntWalk.u32_in _ (by omega)⟩)) ?_
      refine walk_r rfl rfl rfl (op_move (.inl rfl) (ev1 rfl)) ?_
      refine walk_r rfl rfl rfl (op_quo' rfl (ev1 rfl) (ev1 rfl) (fun _ => ⟨by omega, by omega, IntWalk.u32_in _ (by omega)⟩)) ?_
      refine walk_r rfl rfl rfl (op_move (.inl rfl) (ev1 rfl)) ?_
      refine walk_r rfl rfl rfl (op_mul rfl (ev1 rfl) (ev1 rfl)) ?_
      refine walk_r rfl rfl rfl (op_move (.inr rfl) (ev1 rfl)) ?_
      refine walk_r rfl rfl rfl (op_move (.inr rfl) (ev1 rfl)) ?_
      refine walk_r rfl rfl rfl (op_move (.inr rfl) (ev1 rfl)) ?_
      refine walk_nil ?_
      refine dwp_region ?_
      refine walk_r rfl rfl rfl (op_add' rfl (ev1 rfl) (ev1 rfl) (fun _ => IntWalk.i64_in _ (by omega))) ?_
      refine walk_r rfl rfl rfl (op_move (.inl rfl) (ev1 rfl)) ?_
      refine walk_nil ?_
      refine ⟨k + 1, [], by omega, by simp only []; omega, rfl, ⟨congrArg (fun z => some (D.val (Value.int .u32 z))) (shr_succ a k), congrArg (fun z => some (D.val (Value.int .u32 z))) (shr_succ b k), congrArg (fun z => some (D.val (Value.int .u32 z))) (out_t (by omega) hd), congrArg (fun z => some (D.val (Value.int .u32 z))) (by_step (by omega)), rfl, trivial⟩, trivial⟩
    · have hd : ((sr a k : Nat) : Int) % 2 = ((sr b k : Nat) : Int) % 2 := by simpa using hd0
      refine dwp_skip ?_
      refine dwp_region ?_
      refine walk_r rfl rfl rfl (op_move (.inl rfl) (ev1 rfl)) ?_
      refine walk_r rfl rfl rfl (op_quo' rfl (ev1 rfl) (ev1 rfl) (fun _ => ⟨by omega, by omega, IntWalk.u32_in _ (by omega)⟩)) ?_
      refine walk_r rfl rfl rfl (op_move (.inl rfl) (ev1 rfl)) ?_
      refine walk_r rfl rfl rfl (op_quo' rfl (ev1 rfl) (ev1 rfl) (fun _ => ⟨by omega, by omega, IntWalk.u32_in _ (by omega)⟩)) ?_
      refine walk_r rfl rfl rfl (op_move (.inl rfl) (ev1 rfl)) ?_
      refine walk_r rfl rfl rfl (op_mul rfl (ev1 rfl) (ev1 rfl)) ?_
      refine walk_r rfl rfl rfl (op_move (.inr rfl) (ev1 rfl)) ?_
      refine walk_r rfl rfl rfl (op_move (.inr rfl) (ev1 rfl)) ?_
      refine walk_r rfl rfl rfl (op_move (.inr rfl) (ev1 rfl)) ?_
      refine walk_nil ?_
      refine dwp_region ?_
      refine walk_r rfl rfl rfl (op_add' rfl (ev1 rfl) (ev1 rfl) (fun _ => IntWalk.i64_in _ (by omega))) ?_
      refine walk_r rfl rfl rfl (op_move (.inl rfl) (ev1 rfl)) ?_
      refine walk_nil ?_
      refine ⟨k + 1, [], by omega, by simp only []; omega, rfl, ⟨congrArg (fun z => some (D.val (Value.int .u32 z))) (shr_succ a k), congrArg (fun z => some (D.val (Value.int .u32 z))) (shr_succ b k), by rw [← out_f hd]; rfl, congrArg (fun z => some (D.val (Value.int .u32 z))) (by_step (by omega)), rfl, trivial⟩, trivial⟩
  · try simp only [decide_eq_true_eq, decide_eq_false_iff_not, beq_iff_eq, bne_iff_ne, beq_eq_false_iff_ne, bne_eq_false_iff_eq, Bool.not_eq_true', Bool.not_eq_false', Bool.and_eq_true, Bool.or_eq_true, Bool.or_eq_false_iff, ne_eq, Decidable.not_not, Int.not_lt, Int.not_le] at c1
    refine dwp_exit ?_
    refine dwp_seq ?_
    obtain rfl : k = 32 := by omega
    rw [Nat.mod_eq_of_lt (Nat.xor_lt_two_pow ha hb)]
    refine dwp_region ?_
    refine walk_r rfl rfl rfl (op_move (.inl rfl) (ev1 rfl)) ?_
    refine walk_r rfl rfl rfl (op_move (.inr rfl) (ev1 rfl)) ?_
    refine walk_nil ?_
    refine dwp_ret ?_
    refine kend0 (rs1 rfl (rv_t rfl)) rfl ?_
    rfl

set_option maxRecDepth 4000 in
set_option maxHeartbeats 1000000 in
theorem turned_r (n : Nat) (hn : n < 2 ^ 32) : DFun Try.prog 30 [.val (.int .u32 ((n : Nat) : Int))] [] (.val (.int .u32 ((trn n : Nat) : Int))) [] := by
  refine dcalls_go (N := 5) 0 (by kernel_rfl) Try.func30 rfl rfl rfl (by simp only [fr0, Nat.zero_add, Nat.reduceAdd]; exact rfl) rfl fun s0 hs0 => ?_
  refine dwp_seq ?_
  refine dwp_region ?_
  refine walk_r rfl rfl rfl (op_move (.inr rfl) (ev1 rfl)) ?_
  refine walk_nil ?_
  refine dwp_seq ?_
  refine dwp_region ?_
  refine walk_r rfl rfl rfl (op_move (.inl rfl) (ev1 rfl)) ?_
  refine walk_r rfl rfl rfl (op_sub' rfl (ev1 rfl) (ev1 rfl) (fun _ => IntWalk.u32_in _ (by omega))) ?_
  refine walk_r rfl rfl rfl (op_move (.inr rfl) (ev1 rfl)) ?_
  refine walk_nil ?_
  refine dwp_ret ?_
  refine kend0 (rs1 rfl (rv_t rfl)) rfl ?_
  rw [trn_sub hn]

set_option maxRecDepth 4000 in
set_option maxHeartbeats 1000000 in
theorem back_r (n : Nat) (hn : n < 2 ^ 32) : DFun Try.prog 39 [.val (.int .u32 ((n : Nat) : Int))] [] (.val (.int .u32 ((Wr n : Nat) : Int))) [] := by
  refine dcalls_go (N := 11) 0 (by kernel_rfl) Try.func39 rfl rfl rfl (by simp only [fr0, Nat.zero_add, Nat.reduceAdd]; exact rfl) rfl fun s0 hs0 => ?_
  refine dwp_seq ?_
  refine dwp_region ?_
  refine walk_r rfl rfl rfl (op_move (.inr rfl) (ev1 rfl)) ?_
  refine walk_nil ?_
  refine dwp_seq ?_
  refine dwp_seq ?_
  refine dwp_region ?_
  refine walk_r rfl rfl rfl (op_move (.inl rfl) (ev1 rfl)) ?_
  refine walk_r rfl rfl rfl (op_geq rfl (ev1 rfl) (ev1 rfl)) ?_
  refine walk_nil ?_
  refine dwp_cond rfl (fun h => ?_) (fun h => ?_)
  · have h1 : n >>> 31 = 1 := (top_iff hn).2 (of_decide_eq_true h)
    refine dwp_seq ?_
    refine dwp_region ?_
    refine walk_r rfl rfl rfl (op_move (.inl rfl) (ev1 rfl)) ?_
    refine walk_r rfl rfl rfl (dop_call [] [] [] rfl (ev1 rfl) (ec (ev1 rfl) (ec (ev1 rfl) en)) rfl rfl (xor_r n PL hn PL_lt) rfl rfl rfl rfl rfl rfl) ?_
    refine walk_r rfl rfl rfl (op_mul rfl (ev1 rfl) (ev1 rfl)) ?_
    refine walk_r rfl rfl rfl (op_add rfl (ev1 rfl) (ev1 rfl)) ?_
    refine walk_r rfl rfl rfl (op_move (.inr rfl) (ev1 rfl)) ?_
    refine walk_nil ?_
    refine dwp_ret ?_
    refine kend0 (rs1 rfl (rv_t rfl)) rfl ?_
    rw [back_t h1]
  · have h1 : ¬ n >>> 31 = 1 := fun e => of_decide_eq_false h ((top_iff hn).1 e)
    refine dwp_skip ?_
    refine dwp_seq ?_
    refine dwp_region ?_
    refine walk_r rfl rfl rfl (op_move (.inl rfl) (ev1 rfl)) ?_
    refine walk_r rfl rfl rfl (op_mul rfl (ev1 rfl) (ev1 rfl)) ?_
    refine walk_r rfl rfl rfl (op_move (.inr rfl) (ev1 rfl)) ?_
    refine walk_nil ?_
    refine dwp_ret ?_
    refine kend0 (rs1 rfl (rv_t rfl)) rfl ?_
    rw [back_f h1 hn]

set_option maxRecDepth 4000 in
set_option maxHeartbeats 1000000 in
theorem four_r (w : Nat) (hw : w < 2 ^ 32) : DFun Try.prog 35 [.val (.int .u32 ((w : Nat) : Int))] [] (.slf 1 (four w).length ((four w).flatMap un8)) [] := by
  refine dcalls_go (N := 18) 0 (by kernel_rfl) Try.func35 rfl rfl rfl (by simp only [fr0, Nat.zero_add, Nat.reduceAdd]; exact rfl) rfl fun s0 hs0 => ?_
  refine dwp_seq ?_
  refine dwp_region ?_
  refine walk_r rfl rfl rfl (op_move (.inr rfl) (ev1 rfl)) ?_
  refine walk_nil ?_
  refine dwp_seq ?_
  refine dwp_region ?_
  refine walk_r rfl rfl rfl (op_move (.inl rfl) (ev1 rfl)) ?_
  refine walk_r rfl rfl rfl (op_rem' rfl (ev1 rfl) (ev1 rfl) (fun _ => ⟨by omega, by omega⟩)) ?_
  refine walk_r rfl rfl rfl (op_conv ty27 kn5 rfl (ev1 rfl)) ?_
  refine walk_r rfl rfl rfl (op_move (.inl rfl) (ev1 rfl)) ?_
  refine walk_r rfl rfl rfl (op_quo' rfl (ev1 rfl) (ev1 rfl) (fun _ => ⟨by omega, by omega, IntWalk.u32_in _ (by omega)⟩)) ?_
  refine walk_r rfl rfl rfl (op_rem' rfl (ev1 rfl) (ev1 rfl) (fun _ => ⟨by omega, by omega⟩)) ?_
  refine walk_r rfl rfl rfl (op_conv ty27 kn5 rfl (ev1 rfl)) ?_
  refine walk_r rfl rfl rfl (op_move (.inl rfl) (ev1 rfl)) ?_
  refine walk_r rfl rfl rfl (op_quo' rfl (ev1 rfl) (ev1 rfl) (fun _ => ⟨by omega, by omega, IntWalk.u32_in _ (by omega)⟩)) ?_
  refine walk_r rfl rfl rfl (op_rem' rfl (ev1 rfl) (ev1 rfl) (fun _ => ⟨by omega, by omega⟩)) ?_
  refine walk_r rfl rfl rfl (op_conv ty27 kn5 rfl (ev1 rfl)) ?_
  refine walk_r rfl rfl rfl (op_move (.inl rfl) (ev1 rfl)) ?_
  refine walk_r rfl rfl rfl (op_quo' rfl (ev1 rfl) (ev1 rfl) (fun _ => ⟨by omega, by omega, IntWalk.u32_in _ (by omega)⟩)) ?_
  refine walk_r rfl rfl rfl (op_conv ty27 kn5 rfl (ev1 rfl)) ?_
  refine walk_r rfl rfl rfl (op_bs (ps := [(0, .tmp 5), (1, .tmp 9), (2, .tmp 13), (3, .tmp 16)]) rfl sl25 zr5 rfl (vc (ev1 rfl) (vc (ev1 rfl) (vc (ev1 rfl) (vc (ev1 rfl) vn)))) rfl (by decide) (by decide)) ?_
  refine walk_r rfl rfl rfl (op_move (.inr rfl) (ev1 rfl)) ?_
  refine walk_nil ?_
  refine dwp_ret ?_
  refine kend0 (rs1 rfl (rv_t rfl)) rfl ?_
  have e1 : IntKind.u8.wrap ((w : Int) % 256) = ((w % 256 : Nat) : Int) := by rw [IntWalk.u8_in _ (by omega)]; omega
  have e2 : IntKind.u8.wrap ((w : Int) / 256 % 256) = ((w / 256 % 256 : Nat) : Int) := by rw [IntWalk.u8_in _ (by omega)]; omega
  have e3 : IntKind.u8.wrap ((w : Int) / 65536 % 256) = ((w / 65536 % 256 : Nat) : Int) := by rw [IntWalk.u8_in _ (by omega)]; omega
  have e4 : IntKind.u8.wrap ((w : Int) / 16777216) = ((w / 16777216 : Nat) : Int) := by rw [IntWalk.u8_in _ (by omega)]; omega
  rw [e1, e2, e3, e4]
  rfl

set_option maxRecDepth 4000 in
set_option maxHeartbeats 1000000 in
theorem tail_r (s w : Nat) (hs : s < 2 ^ 32) (hw : w < 2 ^ 32) : DFun Try.prog 25 [.val (.int .u32 ((s : Nat) : Int)), .val (.int .u32 ((w : Nat) : Int))] [] (.slf 1 (four (Ws 32 (trn w) ^^^ trn s)).length ((four (Ws 32 (trn w) ^^^ trn s)).flatMap un8)) [] := by
  refine dcalls_go (N := 18) 0 (by kernel_rfl) Try.func25 rfl rfl rfl (by simp only [fr0, Nat.zero_add, Nat.reduceAdd]; exact rfl) rfl fun s0 hs0 => ?_
  refine dwp_seq ?_
  refine dwp_region ?_
  refine walk_r rfl rfl rfl (op_move (.inr rfl) (ev1 rfl)) ?_
  refine walk_nil ?_
  refine dwp_seq ?_
  refine dwp_region ?_
  refine walk_r rfl rfl rfl (op_move (.inl rfl) (ev1 rfl)) ?_
  refine walk_r rfl rfl rfl (dop_call [] [] [] rfl (ev1 rfl) (ec (ev1 rfl) en) rfl rfl (turned_r w hw) rfl rfl rfl rfl rfl rfl) ?_
  refine walk_r rfl rfl rfl (op_move (.inr rfl) (ev1 rfl)) ?_
  refine walk_nil ?_
  refine dwp_seq ?_
  refine dwp_seq ?_
  refine dwp_region ?_
  refine walk_r rfl rfl rfl (op_move (.inl rfl) (ev1 rfl)) ?_
  refine walk_nil ?_
  refine dwp_block ?_
  refine dwp_loopS ⟨hs0, rfl⟩ (α := Nat) (fun k => [(5, .val (.int .u32 ((Ws k (trn w) : Nat) : Int))), (8, .val (.int .i64 (k : Int)))]) [(0, _)] (fun k => []) [] (fun k => k ≤ 32) (fun k => 32 - k) 0 [] (by simp) rfl ⟨rfl, trivial⟩ ⟨rfl, rfl, trivial⟩ trivial ?_
  intro k hx
  simp only [upd, List.set_cons_zero, List.set_cons_succ, List.cons_append, List.nil_append]
  have hk := hx
  have hlk : Ws k (trn w) < 2 ^ 32 := Ws_lt k (trn_lt hw)
  refine dwp_seq ?_
  refine dwp_region ?_
  refine walk_r rfl rfl rfl (op_lss rfl (ev1 rfl) (ev1 rfl)) ?_
  refine walk_nil ?_
  refine dwp_seq ?_
  refine dwp_cond rfl (fun c1 => ?_) (fun c1 => ?_)
  · try simp only [decide_eq_true_eq, decide_eq_false_iff_not, beq_iff_eq, bne_iff_ne, beq_eq_false_iff_ne, bne_eq_false_iff_eq, Bool.not_eq_true', Bool.not_eq_false', Bool.and_eq_true, Bool.or_eq_true, Bool.or_eq_false_iff, ne_eq, Decidable.not_not, Int.not_lt, Int.not_le] at c1
    refine dwp_skip ?_
    refine dwp_seq ?_
    refine dwp_block ?_
    refine dwp_region ?_
    refine walk_r rfl rfl rfl (op_move (.inl rfl) (ev1 rfl)) ?_
    refine walk_r rfl rfl rfl (dop_call [] [] [] rfl (ev1 rfl) (ec (ev1 rfl) en) rfl rfl (back_r (Ws k (trn w)) hlk) rfl rfl rfl rfl rfl rfl) ?_
    refine walk_r rfl rfl rfl (op_move (.inr rfl) (ev1 rfl)) ?_
    refine walk_nil ?_
    refine dwp_region ?_
    refine walk_r rfl rfl rfl (op_add' rfl (ev1 rfl) (ev1 rfl) (fun _ => IntWalk.i64_in _ (by omega))) ?_
    refine walk_r rfl rfl rfl (op_move (.inl rfl) (ev1 rfl)) ?_
    refine walk_nil ?_
    refine ⟨k + 1, [], by omega, by simp only []; omega, rfl, ⟨by rw [Ws_succ]; rfl, rfl, rfl, trivial⟩, trivial⟩
  · try simp only [decide_eq_true_eq, decide_eq_false_iff_not, beq_iff_eq, bne_iff_ne, beq_eq_false_iff_ne, bne_eq_false_iff_eq, Bool.not_eq_true', Bool.not_eq_false', Bool.and_eq_true, Bool.or_eq_true, Bool.or_eq_false_iff, ne_eq, Decidable.not_not, Int.not_lt, Int.not_le] at c1
    refine dwp_exit ?_
    refine dwp_seq ?_
    obtain rfl : k = 32 := by omega
    refine dwp_region ?_
    refine walk_r rfl rfl rfl (op_move (.inl rfl) (ev1 rfl)) ?_
    refine walk_r rfl rfl rfl (op_move (.inl rfl) (ev1 rfl)) ?_
    refine walk_r rfl rfl rfl (dop_call [] [] [] rfl (ev1 rfl) (ec (ev1 rfl) en) rfl rfl (turned_r s hs) rfl rfl rfl rfl rfl rfl) ?_
    refine walk_r rfl rfl rfl (dop_call [] [] [] rfl (ev1 rfl) (ec (ev1 rfl) (ec (ev1 rfl) en)) rfl rfl (xor_r (Ws 32 (trn w)) (trn s) hlk (trn_lt hs)) rfl rfl rfl rfl rfl rfl) ?_
    refine walk_r rfl rfl rfl (dop_call [] [] [] rfl (ev1 rfl) (ec (ev1 rfl) en) rfl rfl (four_r (Ws 32 (trn w) ^^^ trn s) (Nat.xor_lt_two_pow hlk (trn_lt hs))) rfl rfl rfl rfl rfl rfl) ?_
    refine walk_r rfl rfl rfl (op_move (.inr rfl) (ev1 rfl)) ?_
    refine walk_nil ?_
    refine dwp_ret ?_
    refine kend0 (rs1 rfl (rv_t rfl)) rfl ?_
    rfl

set_option maxRecDepth 4000 in
set_option maxHeartbeats 1000000 in
theorem cloneN (l : List Nat) (h : l.length ≤ 2000000) : DFun Try.prog 26 [.slf 1 l.length (l.flatMap un8)] [] (.arr 0) [.arr 5 1 l.length (l.flatMap un8)] := by
  refine dcalls_go (N := 8) 0 (by kernel_rfl) Try.func26 rfl rfl rfl (by simp only [fr0, Nat.zero_add, Nat.reduceAdd]; exact rfl) rfl fun s0 hs0 => ?_
  refine dwp_len (t := 0) rfl fun hl0 hL0 => ?_
  refine dwp_seq ?_
  refine dwp_region ?_
  refine walk_r rfl rfl rfl (op_move (.inr rfl) (ev1 rfl)) ?_
  refine walk_nil ?_
  refine dwp_seq ?_
  refine dwp_seq ?_
  refine dwp_region ?_
  refine walk_r rfl rfl rfl (op_move (.inl rfl) (ev1 rfl)) ?_
  refine walk_nil? rfl rfl rfl rfl sl25 (ev1 rfl) fun nb4 hnb4 => ?_
  refine walk_nil ?_
  refine dwp_cond rfl (fun c1 => ?_) (fun c1 => ?_)
  · try simp only [decide_eq_true_eq, decide_eq_false_iff_not, beq_iff_eq, bne_iff_ne, beq_eq_false_iff_ne, bne_eq_false_iff_eq, Bool.not_eq_true', Bool.not_eq_false', Bool.and_eq_true, Bool.or_eq_true, Bool.or_eq_false_iff, ne_eq, Decidable.not_not, Int.not_lt, Int.not_le] at c1
    refine dwp_seq ?_
    refine dwp_region ?_
    refine walk_r rfl rfl rfl (op_move (.inr rfl) (ev1 rfl)) ?_
    refine walk_nil ?_
    refine dwp_adopt 2 5 1 rfl rfl rfl ?_
    refine dwp_ret ?_
    refine kend [0] (rs1 rfl (rv_t rfl)) rfl rfl ?_ ⟨?_, trivial⟩
    rfl
    exact (by obtain ⟨h1, h2⟩ := hnb4 c1; simp_all [MFits, vwB])
  · try simp only [decide_eq_true_eq, decide_eq_false_iff_not, beq_iff_eq, bne_iff_ne, beq_eq_false_iff_ne, bne_eq_false_iff_eq, Bool.not_eq_true', Bool.not_eq_false', Bool.and_eq_true, Bool.or_eq_true, Bool.or_eq_false_iff, ne_eq, Decidable.not_not, Int.not_lt, Int.not_le] at c1
    refine dwp_skip ?_
    refine dwp_seq ?_
    refine dwp_holes 2 (by simp only [holes, List.cons_append, List.nil_append]; exact rfl) ?_
    refine dwp_region ?_
    refine walk_w rfl rfl rfl (op_bsa (ps := []) 0 rfl sl25 zr5 rfl vn rfl (by decide) (by decide) rfl) (by simp only [upd, List.set_cons_zero, List.set_cons_succ]; exact rfl) ?_
    refine walk_r rfl rfl rfl (op_move (.inl rfl) (ev1 rfl)) ?_
    refine walk_w rfl rfl rfl (op_app (j := 1) rfl sl25 zr5 rfl (ev1 rfl) (ev1 rfl) src_slf rfl rfl (fun _ => flat_oc (fun _ => rfl) l) (fun _ => ⟨by omega, by omega⟩)) (by simp only [upd, List.set_cons_zero, List.set_cons_succ]; exact rfl) ?_
    refine walk_r rfl rfl rfl (op_move (.inr rfl) (ev1 rfl)) ?_
    refine walk_nil ?_
    refine dwp_ret ?_
    refine kend [1] (rs1 rfl (rv_t rfl)) rfl rfl ?_ ⟨?_, trivial⟩
    rfl
    simp [vwB]

theorem cloneN_f (l : List Nat) (h : l.length ≤ 2000000) : DFun Try.prog 26 [.slf 1 l.length (l.flatMap un8)] [] (.slf 1 l.length (l.flatMap un8)) [] := freeze (cloneN l h) rfl

set_option maxRecDepth 4000 in
set_option maxHeartbeats 1000000 in
theorem equalN (l r : List Nat) : DFun Try.prog 13 [.slf 1 l.length (l.flatMap un8), .slf 1 r.length (r.flatMap un8)] [] (.val (.bool (decide (l = r)))) [] := by
  refine dcalls_go (N := 26) 0 (by kernel_rfl) Try.func13 rfl rfl rfl (by simp only [fr0, Nat.zero_add, Nat.reduceAdd]; exact rfl) rfl fun s0 hs0 => ?_
  refine dwp_len (t := 0) rfl fun hl0 hL0 => ?_
  refine dwp_len (t := 1) rfl fun hl1 hL1 => ?_
  refine dwp_seq ?_
  refine dwp_region ?_
  refine walk_r rfl rfl rfl (op_move (.inr rfl) (ev1 rfl)) ?_
  refine walk_nil ?_
  refine dwp_seq ?_
  refine dwp_seq ?_
  refine dwp_region ?_
  refine walk_r rfl rfl rfl (op_move (.inl rfl) (ev1 rfl)) ?_
  refine walk_r rfl rfl rfl (op_len rfl sl25 (ev1 rfl)) ?_
  refine walk_r rfl rfl rfl (op_move (.inl rfl) (ev1 rfl)) ?_
  refine walk_r rfl rfl rfl (op_len rfl sl25 (ev1 rfl)) ?_
  refine walk_r rfl rfl rfl (op_neq rfl (ev1 rfl) (ev1 rfl)) ?_
  refine walk_nil ?_
  refine dwp_cond rfl (fun c1 => ?_) (fun c1 => ?_)
  · try simp only [decide_eq_true_eq, decide_eq_false_iff_not, beq_iff_eq, bne_iff_ne, beq_eq_false_iff_ne, bne_eq_false_iff_eq, Bool.not_eq_true', Bool.not_eq_false', Bool.and_eq_true, Bool.or_eq_true, Bool.or_eq_false_iff, ne_eq, Decidable.not_not, Int.not_lt, Int.not_le] at c1
    refine dwp_seq ?_
    refine dwp_region ?_
    refine walk_r rfl rfl rfl (op_move (.inr rfl) (ev1 rfl)) ?_
    refine walk_nil ?_
    refine dwp_ret ?_
    refine kend0 (rs1 rfl (rv_t rfl)) rfl ?_
    have hne : l ≠ r := fun e => by subst e; exact c1 rfl
    rw [decide_eq_false hne]
  · try simp only [decide_eq_true_eq, decide_eq_false_iff_not, beq_iff_eq, bne_iff_ne, beq_eq_false_iff_ne, bne_eq_false_iff_eq, Bool.not_eq_true', Bool.not_eq_false', Bool.and_eq_true, Bool.or_eq_true, Bool.or_eq_false_iff, ne_eq, Decidable.not_not, Int.not_lt, Int.not_le] at c1
    have hlen : l.length = r.length := by omega
    refine dwp_skip ?_
    refine dwp_seq ?_
    refine dwp_seq ?_
    refine dwp_region ?_
    refine walk_r rfl rfl rfl (op_move (.inl rfl) (ev1 rfl)) ?_
    refine walk_r rfl rfl rfl (op_len rfl sl25 (ev1 rfl)) ?_
    refine walk_r rfl rfl rfl (op_move (.inl rfl) (ev1 rfl)) ?_
    refine walk_nil ?_
    refine dwp_block ?_
    refine dwp_loopS ⟨hs0, rfl⟩ (α := Nat) (fun k => [(13, .val (.int .i64 (k : Int)))]) [(0, _), (1, _), (12, _)] (fun k => []) [] (fun k => k ≤ l.length ∧ l.take k = r.take k) (fun k => l.length - k) 0 [] (by simp) rfl ⟨rfl, rfl, rfl, trivial⟩ ⟨rfl, trivial⟩ trivial ?_
    intro k hx
    simp only [upd, List.set_cons_zero, List.set_cons_succ, List.cons_append, List.nil_append]
    obtain ⟨hk, he⟩ := hx
    refine dwp_seq ?_
    refine dwp_region ?_
    refine walk_r rfl rfl rfl (op_lss rfl (ev1 rfl) (ev1 rfl)) ?_
    refine walk_nil ?_
    refine dwp_seq ?_
    refine dwp_cond rfl (fun c2 => ?_) (fun c2 => ?_)
    · try simp only [decide_eq_true_eq, decide_eq_false_iff_not, beq_iff_eq, bne_iff_ne, beq_eq_false_iff_ne, bne_eq_false_iff_eq, Bool.not_eq_true', Bool.not_eq_false', Bool.and_eq_true, Bool.or_eq_true, Bool.or_eq_false_iff, ne_eq, Decidable.not_not, Int.not_lt, Int.not_le] at c2
      refine dwp_skip ?_
      refine dwp_seq ?_
      refine dwp_block ?_
      refine dwp_seq ?_
      refine dwp_region ?_
      refine walk_r rfl rfl rfl (op_move (.inl rfl) (ev1 rfl)) ?_
      refine walk_r rfl rfl rfl (op_move (.inr rfl) (ev1 rfl)) ?_
      refine walk_nil ?_
      refine dwp_seq ?_
      refine dwp_draw [([], []), ([], []), ([], []), ([], []), ([], []), ([], []), ([], []), ([], []), ([], [])] mixed (by kernel_rfl) ?_
      refine lex_r rfl rfl (op_move (.inl rfl) (ev1 rfl)) ?_
      refine lex_r rfl rfl (op_move (.inl rfl) (ev1 rfl)) ?_
      refine lex_r rfl rfl (op_ixsr (j := k) rfl sl25 (ev1 rfl) (ev1 rfl) (fun _ => rfl) (by decide) (by omega) (by omega)) ?_
      refine lex_r rfl rfl (op_ldod rfl tb5 (ev1 rfl) rfl) ?_
      refine lex_r rfl rfl (op_move (.inl rfl) (ev1 rfl)) ?_
      refine lex_r rfl rfl (op_move (.inl rfl) (ev1 rfl)) ?_
      refine lex_r rfl rfl (op_ixsr (j := k) rfl sl25 (ev1 rfl) (ev1 rfl) (fun _ => rfl) (by decide) (by omega) (by omega)) ?_
      refine lex_r rfl rfl (op_ldod rfl tb5 (ev1 rfl) rfl) ?_
      refine lex_r rfl rfl (op_neq rfl (ev1 rfl) (ev1 rfl)) ?_
      refine lex_nil ?_
      refine dwp_cond rfl (fun c2 => ?_) (fun c2 => ?_)
      · have c3 : l[k] ≠ r[k] := by simp at c2; omega
        refine dwp_seq ?_
        refine dwp_region ?_
        refine walk_r rfl rfl rfl (op_move (.inr rfl) (ev1 rfl)) ?_
        refine walk_nil ?_
        refine dwp_ret ?_
        refine kend0 (rs1 rfl (rv_t rfl)) rfl ?_
        have hne : l ≠ r := fun e => by subst e; exact c3 rfl
        rw [decide_eq_false hne]
      · have c3 : l[k] = r[k] := by simp at c2; omega
        refine dwp_skip ?_
        refine dwp_region ?_
        refine walk_r rfl rfl rfl (op_add' rfl (ev1 rfl) (ev1 rfl) (fun _ => IntWalk.i64_in _ (by omega))) ?_
        refine walk_r rfl rfl rfl (op_move (.inl rfl) (ev1 rfl)) ?_
        refine walk_nil ?_
        refine ⟨k + 1, [], ⟨by omega, by rw [List.take_succ_eq_append_getElem (by omega), List.take_succ_eq_append_getElem (by omega), he, c3]⟩, by simp only []; omega, rfl, ⟨rfl, rfl, rfl, rfl, trivial⟩, trivial⟩
    · try simp only [decide_eq_true_eq, decide_eq_false_iff_not, beq_iff_eq, bne_iff_ne, beq_eq_false_iff_ne, bne_eq_false_iff_eq, Bool.not_eq_true', Bool.not_eq_false', Bool.and_eq_true, Bool.or_eq_true, Bool.or_eq_false_iff, ne_eq, Decidable.not_not, Int.not_lt, Int.not_le] at c2
      refine dwp_exit ?_
      refine dwp_seq ?_
      refine dwp_region ?_
      refine walk_r rfl rfl rfl (op_move (.inr rfl) (ev1 rfl)) ?_
      refine walk_nil ?_
      refine dwp_ret ?_
      refine kend0 (rs1 rfl (rv_t rfl)) rfl ?_
      have e : l = r := by
        have h := he
        rw [List.take_of_length_le (by omega), List.take_of_length_le (by omega)] at h
        exact h
      rw [decide_eq_true e]

set_option maxRecDepth 4000 in
set_option maxHeartbeats 1000000 in
theorem few_d (l : List Nat) : DFun Try.prog 10 [.slf 1 (l).length ((l).flatMap un8)] [] (.slf 1 (l.take (min l.length 400)).length ((l.take (min l.length 400)).flatMap un8)) [] := by
  refine dcalls_go (N := 9) 0 (by kernel_rfl) Try.func10 rfl rfl rfl (by simp only [fr0, Nat.zero_add, Nat.reduceAdd]; exact rfl) rfl fun s0 hs0 => ?_
  refine dwp_len (t := 0) rfl fun hl0 hL0 => ?_
  refine dwp_seq ?_
  refine dwp_region ?_
  refine walk_r rfl rfl rfl (op_move (.inr rfl) (ev1 rfl)) ?_
  refine walk_nil ?_
  refine dwp_seq ?_
  refine dwp_region ?_
  refine walk_r rfl rfl rfl (op_move (.inl rfl) (ev1 rfl)) ?_
  refine walk_r rfl rfl rfl (op_move (.inl rfl) (ev1 rfl)) ?_
  refine walk_r rfl rfl rfl (op_len rfl sl25 (ev1 rfl)) ?_
  refine walk_r rfl rfl rfl (op_min rfl (ev1 rfl) (ev1 rfl)) ?_
  refine walk_r rfl rfl rfl (op_sltk (j := min l.length 400) rfl sl25 (ev1 rfl) (bd_some (ev1 rfl)) (fun _ => by omega) (fun _ => by omega) (fun _ => rfl)) ?_
  refine walk_r rfl rfl rfl (dop_call [] [] [] rfl (ev1 rfl) (ec (ev1 rfl) en) rfl rfl (cloneN_f _ (by rw [List.length_take]; omega)) rfl rfl rfl rfl rfl rfl) ?_
  refine walk_r rfl rfl rfl (op_move (.inr rfl) (ev1 rfl)) ?_
  refine walk_nil ?_
  refine dwp_ret ?_
  refine kend0 (rs1 rfl (rv_t rfl)) rfl ?_
  rfl

end Go.Proofs.Ytnpfbeoibbejeaa
