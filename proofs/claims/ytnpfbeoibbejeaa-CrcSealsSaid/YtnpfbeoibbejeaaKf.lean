/- words, and their bytes -/
import Derived.Test.YtnpfbeoibbejeaaKe
namespace Go.Proofs.Ytnpfbeoibbejeaa
set_option linter.unusedVariables false
set_option linter.unusedSimpArgs false
open Go.RowKit

/-- the lowest k bytes of a word laid -/
def lo4 (w : Nat) : Nat → List Nat
  | 0 => [0, 0, 0, 0]
  | k + 1 => (lo4 w k).set k ((w >>> (8 * k)) % 256)
theorem lo4_len (w : Nat) : ∀ k, (lo4 w k).length = 4
  | 0 => rfl
  | k + 1 => by rw [lo4, List.length_set, lo4_len w k]
theorem lo4_four {w : Nat} (h : w < 2 ^ 32) : lo4 w 4 = four w := by
  show [(w >>> 0) % 256, (w >>> 8) % 256, (w >>> 16) % 256, (w >>> 24) % 256] = [w % 256, w / 256 % 256, w / 65536 % 256, w / 16777216]
  simp only [Nat.shiftRight_eq_div_pow]
  congr 1
  · omega
  · congr 1
    congr 1
    congr 1
    omega
theorem byte_at (w k : Nat) : IntKind.u8.wrap ((w : Int) / 2 ^ (8 * k)) = (((w >>> (8 * k)) % 256 : Nat) : Int) := by
  rw [shr_n, IntKind.wrap_u8]
  omega
theorem un8_len (n : Nat) : (un8 n).length = 1 := rfl
theorem fln (l : List Nat) : (l.flatMap un8).length = l.length := by rw [flat_len un8_len, Nat.mul_one]
section
variable {P : Program} {pc : Bool} {o : Oper} {F : Fr} {M : List Blk}
theorem op_ldtab {T T' : TypeId} {x : Operand} {i : Nat} {a b c : Value} {R : List Value} (ho : o.op = .load T x) (hT : tyB P T = some (true, 256)) (hx : Ev pc F x (.loc i 3)) (hM : M[i]? = some (.flat T' (a :: b :: c :: (tabW.map u32v ++ R)))) : DOp P pc o F M [i] (.val (.agg (tabW.map u32v).toArray)) [] :=
  op_ldr ho hT hx hM (by show ((tabW.map u32v ++ R)).take 256 = _; rw [List.take_left' (by rw [List.length_map, tabW_len])]) (by rw [List.length_map, tabW_len])
end

set_option maxRecDepth 4000 in
set_option maxHeartbeats 1000000 in
theorem doubled_d (n : Nat) (hn : n < 2 ^ 32) : DFun Try.prog 38 [.val (.int .u32 (n : Int))] [] (.val (.int .u32 (Wr n : Nat))) [] := by
  refine dcalls_go (N := 12) 0 (by kernel_rfl) Try.func38 rfl rfl rfl (by simp only [fr0, Nat.zero_add, Nat.reduceAdd]; exact rfl) rfl fun s0 hs0 => ?_
  refine dwp_seq ?_
  refine dwp_region ?_
  refine walk_r rfl rfl rfl (op_move (.inr rfl) (ev1 rfl)) ?_
  refine walk_nil ?_
  refine dwp_seq ?_
  refine dwp_seq ?_
  refine dwp_region ?_
  refine walk_r rfl rfl rfl (op_move (.inl rfl) (ev1 rfl)) ?_
  refine walk_r rfl rfl rfl (op_shr (31) rfl (ev1 rfl) (ev1 rfl) (fun hp => by first | exact ⟨by omega, by decide⟩ | (simp [IntKind.bits]; omega))) ?_
  refine walk_r rfl rfl rfl (op_eql rfl (ev1 rfl) (ev1 rfl)) ?_
  refine walk_nil ?_
  refine dwp_cond rfl (fun h => ?_) (fun h => ?_)
  · have h1 : n >>> 31 = 1 := by rw [shr_n] at h; have := of_decide_eq_true h; omega
    refine dwp_seq ?_
    refine dwp_region ?_
    refine walk_r rfl rfl rfl (op_move (.inl rfl) (ev1 rfl)) ?_
    refine walk_r rfl rfl rfl (op_ixor rfl (ev1 rfl) (ev1 rfl)) ?_
    refine walk_r rfl rfl rfl (op_shl (1) rfl (ev1 rfl) (ev1 rfl) (fun hp => by first | exact ⟨by omega, by decide⟩ | (simp [IntKind.bits]; omega))) ?_
    refine walk_r rfl rfl rfl (op_ior rfl (ev1 rfl) (ev1 rfl)) ?_
    refine walk_r rfl rfl rfl (op_move (.inr rfl) (ev1 rfl)) ?_
    refine walk_nil ?_
    refine dwp_ret ?_
    refine kend0 (rs1 rfl (rv_t rfl)) rfl ?_
    rw [doubled_t h1 hn]
  · have h1 : ¬ n >>> 31 = 1 := by rw [shr_n] at h; have := of_decide_eq_false h; omega
    refine dwp_skip ?_
    refine dwp_seq ?_
    refine dwp_region ?_
    refine walk_r rfl rfl rfl (op_move (.inl rfl) (ev1 rfl)) ?_
    refine walk_r rfl rfl rfl (op_shl (1) rfl (ev1 rfl) (ev1 rfl) (fun hp => by first | exact ⟨by omega, by decide⟩ | (simp [IntKind.bits]; omega))) ?_
    refine walk_r rfl rfl rfl (op_move (.inr rfl) (ev1 rfl)) ?_
    refine walk_nil ?_
    refine dwp_ret ?_
    refine kend0 (rs1 rfl (rv_t rfl)) rfl ?_
    rw [doubled_f h1 hn]

set_option maxRecDepth 4000 in
set_option maxHeartbeats 1000000 in
theorem low_d (w : Nat) (hw : w < 2 ^ 32) : DFun Try.prog 34 [.val (.int .u32 (w : Int))] [] (.val (.agg ((four (w)).flatMap un8).toArray)) [] := by
  refine dcalls_go (N := 17) 0 (by kernel_rfl) Try.func34 rfl rfl rfl (by simp only [fr0, Nat.zero_add, Nat.reduceAdd]; exact rfl) rfl fun s0 hs0 => ?_
  refine dwp_seq ?_
  refine dwp_holes 1 (by simp only [holes, List.cons_append, List.nil_append]; exact rfl) ?_
  refine dwp_region ?_
  refine walk_w rfl rfl rfl (op_alloc 0 rfl zr45 rfl) (by simp only [upd, List.set_cons_zero, List.set_cons_succ]; exact rfl) ?_
  refine walk_nil ?_
  refine dwp_seq ?_
  refine dwp_holes 1 (by simp only [holes, List.cons_append, List.nil_append]; exact rfl) ?_
  refine dwp_region ?_
  refine walk_w rfl rfl rfl (op_alloc 1 rfl zr45 rfl) (by simp only [upd, List.set_cons_zero, List.set_cons_succ]; exact rfl) ?_
  refine walk_nil ?_
  refine dwp_seq ?_
  refine dwp_seq ?_
  refine dwp_region ?_
  refine walk_r rfl rfl rfl (op_move (.inl rfl) (ev1 rfl)) ?_
  refine walk_nil ?_
  refine dwp_block ?_
  refine dwp_loopS ⟨hs0, rfl⟩ (α := Nat) (fun k => [(5, .val (.int .i64 (k : Int)))]) [(0, _), (2, _), (3, _)] (fun k => [(1, .flat 45 ((lo4 w k).flatMap un8))]) [_, .hole] (fun k => k ≤ 4) (fun k => 4 - k) 0 [0, 1] (by simp) rfl ⟨rfl, rfl, rfl, trivial⟩ ⟨rfl, trivial⟩ ⟨rfl, rfl, trivial⟩ ?_
  intro k hx
  simp only [upd, List.set_cons_zero, List.set_cons_succ, List.cons_append, List.nil_append]
  have hk := hx
  refine dwp_seq ?_
  refine dwp_region ?_
  refine walk_r rfl rfl rfl (op_lss rfl (ev1 rfl) (ev1 rfl)) ?_
  refine walk_nil ?_
  refine dwp_seq ?_
  refine dwp_cond rfl (fun c1 => ?_) (fun c1 => ?_)
  · try simp only [decide_eq_true_eq, decide_eq_false_iff_not, beq_iff_eq, bne_iff_ne, beq_eq_false_iff_ne, bne_eq_false_iff_eq, Bool.not_eq_true', Bool.not_eq_false', Bool.and_eq_true, Bool.or_eq_true, Bool.or_eq_false_iff, ne_eq, Decidable.not_not, Int.not_lt, Int.not_le] at c1
    refine dwp_skip ?_
    refine dwp_seq ?_
    refine dwp_block ?_
    refine dwp_seq ?_
    refine dwp_region ?_
    refine walk_r rfl rfl rfl (op_move (.inl rfl) (ev1 rfl)) ?_
    refine walk_r rfl rfl rfl (op_move (.inr rfl) (ev1 rfl)) ?_
    refine walk_nil ?_
    refine dwp_region ?_
    refine walk_r rfl rfl rfl (op_move (.inl rfl) (ev1 rfl)) ?_
    refine walk_r rfl rfl rfl (op_move (.inl rfl) (ev1 rfl)) ?_
    refine walk_r rfl rfl rfl (op_move (.inl rfl) (ev1 rfl)) ?_
    refine walk_r rfl rfl rfl (op_mul' rfl (ev1 rfl) (ev1 rfl) (fun _ => IntWalk.i64_in _ (by omega))) ?_
    refine walk_r rfl rfl rfl (op_shr (8 * k) rfl (ev1 rfl) (ev1 rfl) (fun _ => ⟨by omega, by simp [IntKind.bits]; omega⟩)) ?_
    refine walk_r rfl rfl rfl (op_conv ty27 kn5 rfl (ev1 rfl)) ?_
    refine walk_r rfl rfl rfl (op_ixfr (j := k) rfl ar45 (ev1 rfl) (ev1 rfl) (fun _ => by omega) (fun _ => by omega)) ?_
    refine walk_s rfl rfl (op_stfr (q := (w >>> (8 * k)) % 256) (v := .int .u8 (((w >>> (8 * k)) % 256 : Nat) : Int)) rfl tb5 (ev1 rfl) ⟨_, rfl, fun s v _ hr => by rw [← byte_at]; exact hr⟩ rfl rfl rfl (fun _ => rfl) (fun _ => by rw [lo4_len]; omega)) (by simp only [upd, List.set_cons_zero, List.set_cons_succ]; exact rfl) ?_
    refine walk_nil ?_
    refine dwp_region ?_
    refine walk_r rfl rfl rfl (op_add' rfl (ev1 rfl) (ev1 rfl) (fun _ => IntWalk.i64_in _ (by omega))) ?_
    refine walk_r rfl rfl rfl (op_move (.inl rfl) (ev1 rfl)) ?_
    refine walk_nil ?_
    refine ⟨k + 1, [0, 1], by omega, by simp only []; omega, rfl, ⟨rfl, rfl, rfl, rfl, trivial⟩, ⟨rfl, rfl, trivial⟩⟩
  · try simp only [decide_eq_true_eq, decide_eq_false_iff_not, beq_iff_eq, bne_iff_ne, beq_eq_false_iff_ne, bne_eq_false_iff_eq, Bool.not_eq_true', Bool.not_eq_false', Bool.and_eq_true, Bool.or_eq_true, Bool.or_eq_false_iff, ne_eq, Decidable.not_not, Int.not_lt, Int.not_le] at c1
    refine dwp_exit ?_
    refine dwp_seq ?_
    obtain rfl : k = 4 := by omega
    rw [lo4_four hw]
    refine dwp_region ?_
    refine walk_r rfl rfl rfl (op_ldw rfl tb45 (ev1 rfl) rfl (by rw [fln]; rfl)) ?_
    refine walk_s rfl rfl (op_stwa rfl tb45 (ev1 rfl) (ev1 rfl) rfl rfl rfl rfl) (by simp only [upd, List.set_cons_zero, List.set_cons_succ]; exact rfl) ?_
    refine walk_nil ?_
    refine dwp_ret ?_
    refine kend0 (rs1 rfl (rv_w tb45 rfl rfl rfl)) rfl ?_
    rfl

set_option maxRecDepth 4000 in
set_option maxHeartbeats 1000000 in
theorem tail_d (s w : Nat) (hs : s < 2 ^ 32) (hw : w < 2 ^ 32) : DFun Try.prog 24 [.val (.int .u32 (s : Int)), .val (.int .u32 (w : Int))] [] (.val (.agg ((four (Ws 32 (trn w) ^^^ trn s)).flatMap un8).toArray)) [] := by
  refine dcalls_go (N := 18) 0 (by kernel_rfl) Try.func24 rfl rfl rfl (by simp only [fr0, Nat.zero_add, Nat.reduceAdd]; exact rfl) rfl fun s0 hs0 => ?_
  refine dwp_seq ?_
  refine dwp_holes 1 (by simp only [holes, List.cons_append, List.nil_append]; exact rfl) ?_
  refine dwp_region ?_
  refine walk_w rfl rfl rfl (op_alloc 0 rfl zr45 rfl) (by simp only [upd, List.set_cons_zero, List.set_cons_succ]; exact rfl) ?_
  refine walk_nil ?_
  refine dwp_seq ?_
  have hc1 := cpl_n hs
  have hc2 := cpl_n hw
  have hwl : ∀ k, Ws k (trn w) < 2 ^ 32 := fun k => Ws_lt k (trn_lt hw)
  refine dwp_region ?_
  refine walk_r rfl rfl rfl (op_move (.inl rfl) (ev1 rfl)) ?_
  refine walk_r rfl rfl rfl (op_cpl rfl (ev1 rfl)) ?_
  refine walk_r rfl rfl rfl (op_move (.inr rfl) (ev1 rfl)) ?_
  refine walk_nil ?_
  refine dwp_seq ?_
  refine dwp_seq ?_
  rw [hc2]
  refine dwp_region ?_
  refine walk_r rfl rfl rfl (op_move (.inl rfl) (ev1 rfl)) ?_
  refine walk_nil ?_
  refine dwp_block ?_
  refine dwp_loopS ⟨hs0, rfl⟩ (α := Nat) (fun k => [(5, .val (.int .u32 (Ws k (trn w) : Nat))), (8, .val (.int .i64 (k : Int)))]) [(0, _), (4, _)] (fun k => []) [_] (fun k => k ≤ 32) (fun k => 32 - k) 0 [0] (by simp) rfl ⟨rfl, rfl, trivial⟩ ⟨rfl, rfl, trivial⟩ ⟨rfl, trivial⟩ ?_
  intro k hx
  simp only [upd, List.set_cons_zero, List.set_cons_succ, List.cons_append, List.nil_append]
  have hk := hx
  have hlk := hwl k
  refine dwp_seq ?_
  refine dwp_region ?_
  refine walk_r rfl rfl rfl (op_lss rfl (ev1 rfl) (ev1 rfl)) ?_
  refine walk_nil ?_
  refine dwp_seq ?_
  refine dwp_cond rfl (fun c1 => ?_) (fun c1 => ?_)
  · try simp only [decide_eq_true_eq, decide_eq_false_iff_not, beq_iff_eq, bne_iff_ne, beq_eq_false_iff_ne, bne_eq_false_iff_eq, Bool.not_eq_true', Bool.not_eq_false', Bool.and_eq_true, Bool.or_eq_true, Bool.or_eq_false_iff, ne_eq, Decidable.not_not, Int.not_lt, Int.not_le] at c1
    refine dwp_skip ?_
    refine dwp_seq ?_
    refine dwp_block ?_
    refine dwp_region ?_
    refine walk_r rfl rfl rfl (op_move (.inl rfl) (ev1 rfl)) ?_
    refine walk_r rfl rfl rfl (dop_call [] [] [] rfl (ev1 rfl) (ec (ev1 rfl) en) rfl rfl (doubled_d (Ws k (trn w)) hlk) rfl rfl rfl rfl rfl rfl) ?_
    refine walk_r rfl rfl rfl (op_move (.inr rfl) (ev1 rfl)) ?_
    refine walk_nil ?_
    refine dwp_region ?_
    refine walk_r rfl rfl rfl (op_add' rfl (ev1 rfl) (ev1 rfl) (fun _ => IntWalk.i64_in _ (by omega))) ?_
    refine walk_r rfl rfl rfl (op_move (.inl rfl) (ev1 rfl)) ?_
    refine walk_nil ?_
    refine ⟨k + 1, [0], by omega, by simp only []; omega, rfl, ⟨by rw [Ws_succ]; rfl, rfl, rfl, rfl, trivial⟩, ⟨rfl, trivial⟩⟩
  · try simp only [decide_eq_true_eq, decide_eq_false_iff_not, beq_iff_eq, bne_iff_ne, beq_eq_false_iff_ne, bne_eq_false_iff_eq, Bool.not_eq_true', Bool.not_eq_false', Bool.and_eq_true, Bool.or_eq_true, Bool.or_eq_false_iff, ne_eq, Decidable.not_not, Int.not_lt, Int.not_le] at c1
    refine dwp_exit ?_
    refine dwp_seq ?_
    obtain rfl : k = 32 := by omega
    have hx3 := xor_n hlk (trn_lt hs)
    refine dwp_region ?_
    refine walk_r rfl rfl rfl (op_move (.inl rfl) (ev1 rfl)) ?_
    refine walk_r rfl rfl rfl (op_move (.inl rfl) (ev1 rfl)) ?_
    refine walk_r rfl rfl rfl (op_cpl rfl (ev1 rfl)) ?_
    refine walk_r rfl rfl rfl ((by rw [← hx3, ← hc1]; exact op_ixor rfl (ev1 rfl) (ev1 rfl) : DOp _ _ _ _ _ _ (.val (.int .u32 ((Ws 32 (trn w) ^^^ trn s : Nat) : Int))) _)) ?_
    refine walk_r rfl rfl rfl (dop_call [] [] [] rfl (ev1 rfl) (ec (ev1 rfl) en) rfl rfl (low_d (Ws 32 (trn w) ^^^ trn s) (Nat.xor_lt_two_pow hlk (trn_lt hs))) rfl rfl rfl rfl rfl rfl) ?_
    refine walk_s rfl rfl (op_stwa rfl tb45 (ev1 rfl) (ev1 rfl) rfl rfl rfl rfl) (by simp only [upd, List.set_cons_zero, List.set_cons_succ]; exact rfl) ?_
    refine walk_nil ?_
    refine dwp_ret ?_
    refine kend0 (rs1 rfl (rv_w tb45 rfl rfl rfl)) rfl ?_
    rfl

set_option maxRecDepth 4000 in
set_option maxHeartbeats 1000000 in
theorem table_d : DFun Try.prog 16 [] [] (.val (.agg (tabW.map u32v).toArray)) [] := by
  refine dcalls_go (N := 5) 0 (by kernel_rfl) Try.func16 rfl rfl rfl (by simp only [fr0, Nat.zero_add, Nat.reduceAdd]; exact rfl) rfl fun s0 hs0 => ?_
  refine dwp_seq ?_
  refine dwp_holes 1 (by simp only [holes, List.cons_append, List.nil_append]; exact rfl) ?_
  refine dwp_region ?_
  refine walk_w rfl rfl rfl (op_alloc 0 rfl zr32 rfl) (by simp only [upd, List.set_cons_zero, List.set_cons_succ]; exact rfl) ?_
  refine walk_nil ?_
  refine dwp_seq ?_
  refine dwp_holes 1 (by simp only [holes, List.cons_append, List.nil_append]; exact rfl) ?_
  refine dwp_region ?_
  refine walk_w rfl rfl rfl (op_alloc 1 rfl zr70 rfl) (by simp only [upd, List.set_cons_zero, List.set_cons_succ]; exact rfl) ?_
  refine walk_nil ?_
  refine dwp_seq ?_
  refine dwp_region ?_
  refine walk_w rfl rfl rfl (dop_call [1] [] [] rfl (ev1 rfl) (ec (ev1 rfl) en) rfl rfl (made_first _ _ _) rfl rfl rfl rfl rfl rfl) (by simp only [upd, List.set_cons_zero, List.set_cons_succ]; exact rfl) ?_
  refine walk_r rfl rfl rfl (op_nc rfl (ev1 rfl) (fun s v h => by cases h; exact ⟨_, rfl⟩)) ?_
  refine walk_r rfl rfl rfl (op_ldtab rfl tb32 (ev1 rfl) rfl) ?_
  refine walk_s rfl rfl (op_stwa rfl tb32 (ev1 rfl) (ev1 rfl) rfl rfl rfl rfl) (by simp only [upd, List.set_cons_zero, List.set_cons_succ]; exact rfl) ?_
  refine walk_nil ?_
  refine dwp_ret ?_
  refine kend0 (rs1 rfl (rv_w tb32 rfl rfl rfl)) rfl ?_
  rfl

end Go.Proofs.Ytnpfbeoibbejeaa
