/- what the document asks: sums -/
import Derived.Test.YtnpfbeoibbejeaaKj
import Derived.Test.YtnpfbeoibbejeaaKn
namespace Go.Proofs.Ytnpfbeoibbejeaa
set_option linter.unusedVariables false
set_option linter.unusedSimpArgs false
open Go.RowKit

theorem bit_of_byte (x i : Nat) : sr x i % 2 = (x.testBit i).toNat := by rw [sr, Nat.shiftRight_eq_div_pow, Nat.toNat_testBit]
theorem byte_val : ∀ (l : List Nat) (k : Nat), (∀ x ∈ l, x < 256) → k < l.length → l.getD k 0 = (valL l >>> (8 * k)) % 2 ^ 8
  | [], k, _, h => by cases h
  | x :: l, 0, h, _ => by
    have hx := h x (List.mem_cons_self ..)
    rw [valL, low_xor hx, Nat.mul_zero, Nat.shiftRight_zero]
    simp
    omega
  | x :: l, k + 1, h, hk => by
    have hx := h x (List.mem_cons_self ..)
    have ih := byte_val l k (fun y hy => h y (List.mem_cons_of_mem _ hy)) (by simpa using hk)
    rw [valL, low_xor hx, show 8 * (k + 1) = 8 + 8 * k by omega, Nat.shiftRight_add]
    have e : (x + valL l * 256) >>> 8 = valL l := by rw [Nat.shiftRight_eq_div_pow]; omega
    rw [e, ← ih]
    simp
theorem bit_val {l : List Nat} {j : Nat} (hl : ∀ x ∈ l, x < 256) (hj : j < 8 * l.length) : sr (l.getD (j / 8) 0) (j % 8) % 2 = ((valL l).testBit j).toNat := by
  rw [bit_of_byte, byte_val l (j / 8) hl (by omega), Nat.testBit_mod_two_pow, Nat.testBit_shiftRight, show 8 * (j / 8) + j % 8 = j by omega]
  simp [show j % 8 < 8 by omega]
theorem valL_lt : ∀ (l : List Nat), (∀ x ∈ l, x < 256) → valL l < 2 ^ (8 * l.length)
  | [], _ => by simp [valL]
  | x :: l, h => by
    have hx := h x (List.mem_cons_self ..)
    have ih := valL_lt l fun y hy => h y (List.mem_cons_of_mem _ hy)
    rw [valL, low_xor hx, List.length_cons, show 8 * (l.length + 1) = 8 * l.length + 8 by omega, Nat.pow_add]
    generalize 2 ^ (8 * l.length) = p at ih
    omega
theorem feed_step {r : Nat} {l : List Nat} {j : Nat} : Zr (Zs j (r ^^^ valL l % 2 ^ j) ^^^ ((valL l).testBit j).toNat) = Zs (j + 1) (r ^^^ valL l % 2 ^ (j + 1)) := by
  rw [mod_succ, ← Nat.xor_assoc, Zs_succ, Zs_xor j (r ^^^ valL l % 2 ^ j)]
  congr 2
  cases (valL l).testBit j with
  | false => simp [Zs_zero]
  | true => simp [Zs_shl]
theorem feed_end {r : Nat} {l : List Nat} (hl : ∀ x ∈ l, x < 256) : Zs (8 * l.length) (r ^^^ valL l % 2 ^ (8 * l.length)) = fed r l := by
  rw [Nat.mod_eq_of_lt (valL_lt l hl), fed_val]
theorem fdb_t {r b : Nat} (hb : b < 2) (h : r % 2 ≠ b) : (r >>> 1) ^^^ PL = Zr (r ^^^ b) := by
  have e : b = 0 ∨ b = 1 := by omega
  rw [Zr_odd (by rw [mod2_xor]; omega), Nat.shiftRight_xor_distrib]
  rcases e with rfl | rfl <;> simp
theorem fdb_f {r b : Nat} (hb : b < 2) (h : r % 2 = b) : r >>> 1 = Zr (r ^^^ b) := by
  have e : b = 0 ∨ b = 1 := by omega
  rw [Zr_even (by rw [mod2_xor]; omega), Nat.shiftRight_xor_distrib]
  rcases e with rfl | rfl <;> simp

theorem nat_div8 (n : Nat) : ((n : Int) / 8) = ((n / 8 : Nat) : Int) := by omega
theorem sr_two (x k : Nat) : ((sr x k : Nat) : Int) % 2 = ((sr x k % 2 : Nat) : Int) := by omega
theorem half_n (x : Nat) : @HDiv.hDiv Int Int Int _ (x : Int) (2 : Int) = ((x >>> 1 : Nat) : Int) := by rw [Nat.shiftRight_eq_div_pow]; omega

set_option maxRecDepth 4000 in
set_option maxHeartbeats 1000000 in
theorem bit_r (l : List Nat) (n : Nat) (hl : isN l) (hn : n < 8 * l.length) : DFun Try.prog 33 [.slf 1 (l).length ((l).flatMap un8), .val (.int .i64 (n : Int))] [] (.val (.int .u32 ((sr (l.getD (n / 8) 0) (n % 8) % 2 : Nat) : Int))) [] := by
  refine dcalls_go (N := 21) 0 (by kernel_rfl) Try.func33 rfl rfl rfl (by simp only [fr0, Nat.zero_add, Nat.reduceAdd]; exact rfl) rfl fun s0 hs0 => ?_
  refine dwp_len (t := 0) rfl fun hl0 hL0 => ?_
  refine dwp_seq ?_
  refine dwp_region ?_
  refine walk_r rfl rfl rfl (op_move (.inr rfl) (ev1 rfl)) ?_
  refine walk_nil ?_
  refine dwp_seq ?_
  have hq : n / 8 < l.length := by omega
  have hgx : l[n / 8] < 256 := hl _ (List.getElem_mem hq)
  have hgd : l.getD (n / 8) 0 = l[n / 8] := by rw [List.getD_eq_getElem?_getD, List.getElem?_eq_getElem hq]; rfl
  refine dwp_region ?_
  refine walk_r rfl rfl rfl (op_move (.inl rfl) (ev1 rfl)) ?_
  refine walk_r rfl rfl rfl (op_move (.inl rfl) (ev1 rfl)) ?_
  refine walk_r rfl rfl rfl (op_quo' rfl (ev1 rfl) (ev1 rfl) (fun _ => ⟨by omega, by omega, IntWalk.i64_in _ (by omega)⟩)) ?_
  refine walk_r rfl rfl rfl (op_ixsr (j := (n / 8)) rfl sl25 (ev1 rfl) (ev1 rfl) (fun _ => rfl) (by decide) (by omega) (by omega)) ?_
  refine walk_r rfl rfl rfl (op_ldod rfl tb5 (ev1 rfl) rfl) ?_
  refine walk_r rfl rfl rfl (op_conv' ty5 kn27 rfl (ev1 rfl) (fun _ => IntWalk.u32_in _ (by omega))) ?_
  refine walk_r rfl rfl rfl (op_move (.inr rfl) (ev1 rfl)) ?_
  refine walk_nil ?_
  refine dwp_seq ?_
  refine dwp_seq ?_
  refine dwp_region ?_
  refine walk_r rfl rfl rfl (op_move (.inl rfl) (ev1 rfl)) ?_
  refine walk_r rfl rfl rfl (op_rem' rfl (ev1 rfl) (ev1 rfl) (fun _ => ⟨by omega, by omega⟩)) ?_
  refine walk_r rfl rfl rfl (op_move (.inl rfl) (ev1 rfl)) ?_
  refine walk_nil ?_
  refine dwp_block ?_
  refine dwp_loopS ⟨hs0, rfl⟩ (α := Nat) (fun k => [(5, .val (.int .u32 ((sr (l.getD (n / 8) 0) k : Nat) : Int))), (14, .val (.int .i64 (k : Int)))]) [(13, _)] (fun k => []) [] (fun k => k ≤ n % 8) (fun k => 8 - k) 0 [] (by simp) rfl ⟨rfl, trivial⟩ ⟨by rw [hgd]; rfl, rfl, trivial⟩ trivial ?_
  intro k hx
  simp only [upd, List.set_cons_zero, List.set_cons_succ, List.cons_append, List.nil_append]
  have hk := hx
  have hsk : sr (l.getD (n / 8) 0) k < 2 ^ 32 := sr_lt (by rw [hgd]; omega) k
  refine dwp_seq ?_
  refine dwp_region ?_
  refine walk_r rfl rfl rfl (op_lss rfl (ev1 rfl) (ev1 rfl)) ?_
  refine walk_nil ?_
  refine dwp_seq ?_
  refine dwp_cond rfl (fun c1 => ?_) (fun c1 => ?_)
  · try simp only [decide_eq_true_eq, decide_eq_false_iff_not, beq_iff_eq, bne_iff_ne, beq_eq_false_iff_ne, bne_eq_false_iff_eq, Bool.not_eq_true', Bool.not_eq_false', Bool.and_eq_true, Bool.or_eq_true, Bool.or_eq_false_iff, ne_eq, Decidable.not_not, Int.not_lt, Int.not_le] at c1
    refine dwp_skip ?_
    refine dwp_seq ?_
    refine dwp_block ?_
    refine dwp_region ?_
    refine walk_r rfl rfl rfl (op_move (.inl rfl) (ev1 rfl)) ?_
    refine walk_r rfl rfl rfl (op_quo' rfl (ev1 rfl) (ev1 rfl) (fun _ => ⟨by omega, by omega, IntWalk.u32_in _ (by omega)⟩)) ?_
    refine walk_r rfl rfl rfl (op_move (.inr rfl) (ev1 rfl)) ?_
    refine walk_nil ?_
    refine dwp_region ?_
    refine walk_r rfl rfl rfl (op_add' rfl (ev1 rfl) (ev1 rfl) (fun _ => IntWalk.i64_in _ (by omega))) ?_
    refine walk_r rfl rfl rfl (op_move (.inl rfl) (ev1 rfl)) ?_
    refine walk_nil ?_
    refine ⟨k + 1, [], by omega, by simp only []; omega, rfl, ⟨congrArg (fun z => some (D.val (Value.int .u32 z))) (shr_succ _ k), rfl, rfl, trivial⟩, trivial⟩
  · try simp only [decide_eq_true_eq, decide_eq_false_iff_not, beq_iff_eq, bne_iff_ne, beq_eq_false_iff_ne, bne_eq_false_iff_eq, Bool.not_eq_true', Bool.not_eq_false', Bool.and_eq_true, Bool.or_eq_true, Bool.or_eq_false_iff, ne_eq, Decidable.not_not, Int.not_lt, Int.not_le] at c1
    refine dwp_exit ?_
    refine dwp_seq ?_
    obtain rfl : k = n % 8 := by omega
    have hsk2 := sr_lt (show l.getD (n / 8) 0 < 2 ^ 32 by rw [hgd]; omega) (n % 8)
    refine dwp_region ?_
    refine walk_r rfl rfl rfl (op_move (.inl rfl) (ev1 rfl)) ?_
    refine walk_r rfl rfl rfl (op_rem' rfl (ev1 rfl) (ev1 rfl) (fun _ => ⟨by omega, by omega⟩)) ?_
    refine walk_r rfl rfl rfl (op_move (.inr rfl) (ev1 rfl)) ?_
    refine walk_nil ?_
    refine dwp_ret ?_
    refine kend0 (rs1 rfl (rv_t rfl)) rfl ?_
    rw [sr_two]

set_option maxRecDepth 4000 in
set_option maxHeartbeats 1000000 in
theorem feed_r (r b : Nat) (hr : r < 2 ^ 32) (hb : b < 2) : DFun Try.prog 32 [.val (.int .u32 ((r : Nat) : Int)), .val (.int .u32 ((b : Nat) : Int))] [] (.val (.int .u32 ((Zr (r ^^^ b) : Nat) : Int))) [] := by
  refine dcalls_go (N := 14) 0 (by kernel_rfl) Try.func32 rfl rfl rfl (by simp only [fr0, Nat.zero_add, Nat.reduceAdd]; exact rfl) rfl fun s0 hs0 => ?_
  refine dwp_seq ?_
  refine dwp_region ?_
  refine walk_r rfl rfl rfl (op_move (.inr rfl) (ev1 rfl)) ?_
  refine walk_nil ?_
  refine dwp_seq ?_
  refine dwp_seq ?_
  refine dwp_region ?_
  refine walk_r rfl rfl rfl (op_move (.inl rfl) (ev1 rfl)) ?_
  refine walk_r rfl rfl rfl (op_rem' rfl (ev1 rfl) (ev1 rfl) (fun _ => ⟨by omega, by omega⟩)) ?_
  refine walk_r rfl rfl rfl (op_move (.inl rfl) (ev1 rfl)) ?_
  refine walk_r rfl rfl rfl (op_neq rfl (ev1 rfl) (ev1 rfl)) ?_
  refine walk_nil ?_
  refine dwp_cond rfl (fun h => ?_) (fun h => ?_)
  · have hd : r % 2 ≠ b := by simp at h; omega
    refine dwp_seq ?_
    have hh := half_n r
    have hs1 : r >>> 1 < 2 ^ 32 := sr_lt hr 1
    refine dwp_region ?_
    refine walk_r rfl rfl rfl (op_move (.inl rfl) (ev1 rfl)) ?_
    refine walk_r rfl rfl rfl (op_quo' rfl (ev1 rfl) (ev1 rfl) (fun _ => ⟨by omega, by omega, IntWalk.u32_in _ (by omega)⟩)) ?_
    refine walk_r rfl rfl rfl (dop_call [] [] [] rfl (ev1 rfl) (ec (ev1 rfl) (ec (ev1 rfl) en)) rfl rfl ((by rw [hh]; exact xor_r (r >>> 1) PL hs1 PL_lt)) rfl rfl rfl rfl rfl rfl) ?_
    refine walk_r rfl rfl rfl (op_move (.inr rfl) (ev1 rfl)) ?_
    refine walk_nil ?_
    refine dwp_ret ?_
    refine kend0 (rs1 rfl (rv_t rfl)) rfl ?_
    rw [fdb_t hb hd]
  · have hd : r % 2 = b := by simp at h; omega
    refine dwp_skip ?_
    refine dwp_seq ?_
    refine dwp_region ?_
    refine walk_r rfl rfl rfl (op_move (.inl rfl) (ev1 rfl)) ?_
    refine walk_r rfl rfl rfl (op_quo' rfl (ev1 rfl) (ev1 rfl) (fun _ => ⟨by omega, by omega, IntWalk.u32_in _ (by omega)⟩)) ?_
    refine walk_r rfl rfl rfl (op_move (.inr rfl) (ev1 rfl)) ?_
    refine walk_nil ?_
    refine dwp_ret ?_
    refine kend0 (rs1 rfl (rv_t rfl)) rfl ?_
    rw [half_n, fdb_f hb hd]

set_option maxRecDepth 4000 in
set_option maxHeartbeats 1000000 in
theorem fed_r (r : Nat) (l : List Nat) (hr : r < 2 ^ 32) (hl : isN l) (hll : l.length ≤ 1000000) : DFun Try.prog 17 [.val (.int .u32 ((r : Nat) : Int)), .slf 1 (l).length ((l).flatMap un8)] [] (.val (.int .u32 ((fed r l : Nat) : Int))) [] := by
  refine dcalls_go (N := 19) 0 (by kernel_rfl) Try.func17 rfl rfl rfl (by simp only [fr0, Nat.zero_add, Nat.reduceAdd]; exact rfl) rfl fun s0 hs0 => ?_
  refine dwp_len (t := 1) rfl fun hl1 hL1 => ?_
  refine dwp_seq ?_
  refine dwp_region ?_
  refine walk_r rfl rfl rfl (op_move (.inr rfl) (ev1 rfl)) ?_
  refine walk_nil ?_
  refine dwp_seq ?_
  refine dwp_seq ?_
  refine dwp_region ?_
  refine walk_r rfl rfl rfl (op_move (.inl rfl) (ev1 rfl)) ?_
  refine walk_r rfl rfl rfl (op_len rfl sl25 (ev1 rfl)) ?_
  refine walk_r rfl rfl rfl (op_mul' rfl (ev1 rfl) (ev1 rfl) (fun _ => IntWalk.i64_in _ (by omega))) ?_
  refine walk_r rfl rfl rfl (op_move (.inl rfl) (ev1 rfl)) ?_
  refine walk_nil ?_
  refine dwp_block ?_
  refine dwp_loopS ⟨hs0, rfl⟩ (α := Nat) (fun j => [(0, .val (.int .u32 ((Zs j (r ^^^ valL l % 2 ^ j) : Nat) : Int))), (9, .val (.int .i64 (j : Int)))]) [(1, _), (8, _)] (fun j => []) [] (fun j => j ≤ 8 * l.length ∧ Zs j (r ^^^ valL l % 2 ^ j) < 2 ^ 32) (fun j => 8 * l.length - j) 0 [] (⟨by omega, by rw [Nat.pow_zero, Nat.mod_one, Nat.xor_zero]; exact hr⟩) rfl ⟨rfl, rfl, trivial⟩ ⟨by rw [Nat.pow_zero, Nat.mod_one, Nat.xor_zero]; rfl, rfl, trivial⟩ trivial ?_
  intro j hx
  simp only [upd, List.set_cons_zero, List.set_cons_succ, List.cons_append, List.nil_append]
  obtain ⟨hj, hsj⟩ := hx
  refine dwp_seq ?_
  refine dwp_region ?_
  refine walk_r rfl rfl rfl (op_lss rfl (ev1 rfl) (ev1 rfl)) ?_
  refine walk_nil ?_
  refine dwp_seq ?_
  refine dwp_cond rfl (fun c1 => ?_) (fun c1 => ?_)
  · try simp only [decide_eq_true_eq, decide_eq_false_iff_not, beq_iff_eq, bne_iff_ne, beq_eq_false_iff_ne, bne_eq_false_iff_eq, Bool.not_eq_true', Bool.not_eq_false', Bool.and_eq_true, Bool.or_eq_true, Bool.or_eq_false_iff, ne_eq, Decidable.not_not, Int.not_lt, Int.not_le] at c1
    refine dwp_skip ?_
    refine dwp_seq ?_
    refine dwp_block ?_
    refine dwp_seq ?_
    refine dwp_region ?_
    refine walk_r rfl rfl rfl (op_move (.inl rfl) (ev1 rfl)) ?_
    refine walk_r rfl rfl rfl (op_move (.inr rfl) (ev1 rfl)) ?_
    refine walk_nil ?_
    refine dwp_region ?_
    refine walk_r rfl rfl rfl (op_move (.inl rfl) (ev1 rfl)) ?_
    refine walk_r rfl rfl rfl (op_move (.inl rfl) (ev1 rfl)) ?_
    refine walk_r rfl rfl rfl (op_move (.inl rfl) (ev1 rfl)) ?_
    refine walk_r rfl rfl rfl (dop_call [] [] [] rfl (ev1 rfl) (ec (ev1 rfl) (ec (ev1 rfl) en)) rfl rfl (bit_r l j hl (by omega)) rfl rfl rfl rfl rfl rfl) ?_
    refine walk_r rfl rfl rfl (dop_call [] [] [] rfl (ev1 rfl) (ec (ev1 rfl) (ec (ev1 rfl) en)) rfl rfl (feed_r (Zs j (r ^^^ valL l % 2 ^ j)) _ hsj (Nat.mod_lt _ (by decide))) rfl rfl rfl rfl rfl rfl) ?_
    refine walk_r rfl rfl rfl (op_move (.inr rfl) (ev1 rfl)) ?_
    refine walk_nil ?_
    refine dwp_region ?_
    refine walk_r rfl rfl rfl (op_add' rfl (ev1 rfl) (ev1 rfl) (fun _ => IntWalk.i64_in _ (by omega))) ?_
    refine walk_r rfl rfl rfl (op_move (.inl rfl) (ev1 rfl)) ?_
    refine walk_nil ?_
    refine ⟨j + 1, [], ⟨by omega, by rw [← feed_step, ← bit_val hl (by omega)]; exact Zr_lt (Nat.xor_lt_two_pow hsj (by omega))⟩, by simp only []; omega, rfl, ⟨by rw [← feed_step, ← bit_val hl (by omega)]; rfl, rfl, rfl, rfl, trivial⟩, trivial⟩
  · try simp only [decide_eq_true_eq, decide_eq_false_iff_not, beq_iff_eq, bne_iff_ne, beq_eq_false_iff_ne, bne_eq_false_iff_eq, Bool.not_eq_true', Bool.not_eq_false', Bool.and_eq_true, Bool.or_eq_true, Bool.or_eq_false_iff, ne_eq, Decidable.not_not, Int.not_lt, Int.not_le] at c1
    refine dwp_exit ?_
    refine dwp_seq ?_
    obtain rfl : j = 8 * l.length := by omega
    rw [feed_end hl]
    refine dwp_region ?_
    refine walk_r rfl rfl rfl (op_move (.inl rfl) (ev1 rfl)) ?_
    refine walk_r rfl rfl rfl (op_move (.inr rfl) (ev1 rfl)) ?_
    refine walk_nil ?_
    refine dwp_ret ?_
    refine kend0 (rs1 rfl (rv_t rfl)) rfl ?_
    rfl

set_option maxRecDepth 4000 in
set_option maxHeartbeats 1000000 in
theorem more_r (s : Nat) (l : List Nat) (hs : s < 2 ^ 32) (hl : isN l) (hll : l.length ≤ 1000000) : DFun Try.prog 15 [.val (.int .u32 ((s : Nat) : Int)), .slf 1 (l).length ((l).flatMap un8)] [] (.val (.int .u32 ((moreC s l : Nat) : Int))) [] := by
  refine dcalls_go (N := 10) 0 (by kernel_rfl) Try.func15 rfl rfl rfl (by simp only [fr0, Nat.zero_add, Nat.reduceAdd]; exact rfl) rfl fun s0 hs0 => ?_
  refine dwp_len (t := 1) rfl fun hl1 hL1 => ?_
  refine dwp_seq ?_
  refine dwp_region ?_
  refine walk_r rfl rfl rfl (op_move (.inr rfl) (ev1 rfl)) ?_
  refine walk_nil ?_
  refine dwp_seq ?_
  refine dwp_region ?_
  refine walk_r rfl rfl rfl (op_move (.inl rfl) (ev1 rfl)) ?_
  refine walk_r rfl rfl rfl (dop_call [] [] [] rfl (ev1 rfl) (ec (ev1 rfl) en) rfl rfl (turned_r s hs) rfl rfl rfl rfl rfl rfl) ?_
  refine walk_r rfl rfl rfl (op_move (.inl rfl) (ev1 rfl)) ?_
  refine walk_r rfl rfl rfl (dop_call [] [] [] rfl (ev1 rfl) (ec (ev1 rfl) (ec (ev1 rfl) en)) rfl rfl (fed_r (trn s) l (trn_lt hs) hl hll) rfl rfl rfl rfl rfl rfl) ?_
  refine walk_r rfl rfl rfl (dop_call [] [] [] rfl (ev1 rfl) (ec (ev1 rfl) en) rfl rfl (turned_r _ (fed_lt l (trn_lt hs) hl)) rfl rfl rfl rfl rfl rfl) ?_
  refine walk_r rfl rfl rfl (op_move (.inr rfl) (ev1 rfl)) ?_
  refine walk_nil ?_
  refine dwp_ret ?_
  refine kend0 (rs1 rfl (rv_t rfl)) rfl ?_
  rfl

set_option maxRecDepth 4000 in
set_option maxHeartbeats 1000000 in
theorem sum_r (l : List Nat) (hl : isN l) (hll : l.length ≤ 1000000) : DFun Try.prog 12 [.slf 1 (l).length ((l).flatMap un8)] [] (.val (.int .u32 ((moreC 0 l : Nat) : Int))) [] := by
  refine dcalls_go (N := 5) 0 (by kernel_rfl) Try.func12 rfl rfl rfl (by simp only [fr0, Nat.zero_add, Nat.reduceAdd]; exact rfl) rfl fun s0 hs0 => ?_
  refine dwp_len (t := 0) rfl fun hl0 hL0 => ?_
  refine dwp_seq ?_
  refine dwp_region ?_
  refine walk_r rfl rfl rfl (op_move (.inr rfl) (ev1 rfl)) ?_
  refine walk_nil ?_
  refine dwp_seq ?_
  refine dwp_region ?_
  refine walk_r rfl rfl rfl (op_move (.inl rfl) (ev1 rfl)) ?_
  refine walk_r rfl rfl rfl (dop_call [] [] [] rfl (ev1 rfl) (ec (ev1 rfl) (ec (ev1 rfl) en)) rfl rfl (more_r 0 l (by decide) hl hll) rfl rfl rfl rfl rfl rfl) ?_
  refine walk_r rfl rfl rfl (op_move (.inr rfl) (ev1 rfl)) ?_
  refine walk_nil ?_
  refine dwp_ret ?_
  refine kend0 (rs1 rfl (rv_t rfl)) rfl ?_
  rfl

end Go.Proofs.Ytnpfbeoibbejeaa
