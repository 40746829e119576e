/- the table -/
import Derived.Test.YtnpfbeoibbejeaaKa
import Derived.Test.YtnpfbeoibbejeaaMa
namespace Go.Proofs.Ytnpfbeoibbejeaa
set_option linter.unusedVariables false
set_option linter.unusedSimpArgs false
open Go.RowKit

def f1 : Nat → List Nat
  | 0 => List.replicate 256 0
  | k + 1 => (f1 k).set (128 >>> k) (Zs (k + 1) 1)
theorem f1_len : ∀ k, (f1 k).length = 256
  | 0 => by rw [f1, List.length_replicate]
  | k + 1 => by rw [f1, List.length_set, f1_len k]
theorem mem_set {l : List Nat} {i n x : Nat} (h : x ∈ l.set i n) : x ∈ l ∨ x = n := by
  rw [List.mem_iff_getElem?] at h
  obtain ⟨j, hj⟩ := h
  rw [List.getElem?_set] at hj
  split at hj
  · split at hj
    · exact .inr (Option.some.inj hj).symm
    · cases hj
  · exact .inl (List.mem_of_getElem? hj)
theorem f1_lt : ∀ k, ∀ x ∈ f1 k, x < 2 ^ 32
  | 0, x, h => by rw [f1, List.mem_replicate] at h; omega
  | k + 1, x, h => by
    rw [f1] at h
    rcases mem_set h with h | rfl
    · exact f1_lt k x h
    · exact Zs_lt _ (by decide)
def lowB (b : Nat) : Nat := (andZ .i64 (b : Int) (IntKind.i64.wrap (0 - (b : Int)))).toNat
def offB (b : Nat) : Nat := (xorZ .i64 (b : Int) (lowB b : Int)).toNat
def powB (n : Nat) : Bool := n == 1 || n == 2 || n == 4 || n == 8 || n == 16 || n == 32 || n == 64 || n == 128
theorem bits_ok : (List.range 256).all (fun b => decide (andZ .i64 (b : Int) (IntKind.i64.wrap (0 - (b : Int))) = (lowB b : Int)) && Nat.blt (lowB b) 256 && decide (xorZ .i64 (b : Int) (lowB b : Int) = (offB b : Int)) && Nat.blt (offB b) 256 && Nat.beq (lowB b ^^^ offB b) b && (Nat.beq b 0 || powB (lowB b)) && Nat.ble (lowB b) b && (Nat.beq b 0 || Nat.blt (offB b) b)) = true := by kernel_rfl
theorem bits_at {b : Nat} (h : b < 256) : andZ .i64 (b : Int) (IntKind.i64.wrap (0 - (b : Int))) = (lowB b : Int) ∧ lowB b < 256 ∧ xorZ .i64 (b : Int) (lowB b : Int) = (offB b : Int) ∧ offB b < 256 ∧ lowB b ^^^ offB b = b ∧ (b = 0 ∨ powB (lowB b) = true) ∧ (b = 0 ∨ offB b < b) := by
  have h1 := List.all_eq_true.1 bits_ok b (List.mem_range.2 h)
  simp only [Bool.and_eq_true, decide_eq_true_eq, Bool.or_eq_true] at h1
  obtain ⟨⟨⟨⟨⟨⟨⟨q1, q2⟩, q3⟩, q4⟩, q5⟩, q6⟩, q7⟩, q8⟩ := h1
  exact ⟨q1, Nat.blt_eq.mp q2, q3, Nat.blt_eq.mp q4, Nat.eq_of_beq_eq_true q5, q6.imp (fun h => Nat.eq_of_beq_eq_true h) id, q8.imp (fun h => Nat.eq_of_beq_eq_true h) (fun h => Nat.blt_eq.mp h)⟩
def f2 : Nat → List Nat
  | 0 => f1 8
  | b + 1 => (f2 b).set b ((f2 b).getD (lowB b) 0 ^^^ (f2 b).getD (offB b) 0)
theorem f2_len : ∀ k, (f2 k).length = 256
  | 0 => f1_len 8
  | k + 1 => by rw [f2, List.length_set, f2_len k]
theorem getD_lt {l : List Nat} (h : ∀ x ∈ l, x < 2 ^ 32) (i : Nat) : l.getD i 0 < 2 ^ 32 := by
  rw [List.getD_eq_getElem?_getD]
  cases e : l[i]? with
  | none => simp
  | some x => exact h x (List.mem_of_getElem? e)
theorem f2_lt : ∀ k, ∀ x ∈ f2 k, x < 2 ^ 32
  | 0, x, h => f1_lt 8 x h
  | k + 1, x, h => by
    rw [f2] at h
    rcases mem_set h with h | rfl
    · exact f2_lt k x h
    · exact Nat.xor_lt_two_pow (getD_lt (f2_lt k) _) (getD_lt (f2_lt k) _)
theorem f1_pow {n : Nat} (h : powB n = true) : (f1 8).getD n 0 = Zs 8 n := by
  simp only [powB, Bool.or_eq_true, beq_iff_eq] at h
  rcases h with ((((((rfl | rfl) | rfl) | rfl) | rfl) | rfl) | rfl) | rfl <;> kernel_rfl
theorem pow_lt {n : Nat} (h : powB n = true) : n < 256 ∧ 0 < n := by
  simp only [powB, Bool.or_eq_true, beq_iff_eq] at h
  omega
theorem f2_at : ∀ b, b ≤ 256 → (∀ j, j < b → (f2 b).getD j 0 = Zs 8 j) ∧ ∀ n, powB n = true → (f2 b).getD n 0 = Zs 8 n
  | 0, _ => ⟨fun j h => absurd h (by omega), fun n h => f1_pow h⟩
  | b + 1, hb => by
    obtain ⟨h1, h2⟩ := f2_at b (by omega)
    obtain ⟨_, q2, _, q4, q5, q6, q7⟩ := bits_at (show b < 256 by omega)
    have key : (f2 b).getD (lowB b) 0 ^^^ (f2 b).getD (offB b) 0 = Zs 8 b := by
      rcases Nat.eq_zero_or_pos b with rfl | hp
      · rw [show lowB 0 = 0 by kernel_rfl, show offB 0 = 0 by kernel_rfl, Nat.xor_self, Zs_zero]
      · have hpw := q6.resolve_left (by omega)
        have hof := q7.resolve_left (by omega)
        rw [h2 _ hpw, h1 _ hof, ← Zs_xor, q5]
    have set_get : ∀ j, (f2 (b + 1)).getD j 0 = if b = j then Zs 8 b else (f2 b).getD j 0 := by
      intro j
      rw [f2, key, List.getD_eq_getElem?_getD, List.getElem?_set]
      by_cases e : b = j
      · rw [if_pos e, if_pos e, if_pos (by rw [f2_len]; omega)]; rfl
      · rw [if_neg e, if_neg e, List.getD_eq_getElem?_getD]
    refine ⟨fun j hj => ?_, fun n hn => ?_⟩
    · rw [set_get]
      split
      · rename_i e; rw [e]
      · exact h1 j (by omega)
    · rw [set_get]
      split
      · rename_i e; rw [e]
      · exact h2 n hn
/-- the words that a register goes on by -/
def tabW : List Nat := f2 256
theorem tabW_at {x : Nat} (h : x < 256) : tabW.getD x 0 = Zs 8 x := (f2_at 256 (Nat.le_refl _)).1 x h
theorem tabW_len : tabW.length = 256 := f2_len 256
theorem tabW_lt : ∀ x ∈ tabW, x < 2 ^ 32 := f2_lt 256

section
variable {P : Program} {pc : Bool} {o : Oper} {F : Fr} {M : List Blk}
theorem op_wix {T : TypeId} {x y : Operand} {k : IntKind} {z : Int} {i : Nat} (j : Nat) (ho : o.op = .indexAddr T x y) (hT : arE P T = some (256, 1)) (hx : Ev pc F x (.loc i 3)) (hy : Ev pc F y (.val (.int k z))) (hz : pc = true → z = (j : Int)) (hj : pc = true → j < 256) : DOp P pc o F M [] (.loc i (3 + j)) [] := fun hp => by
  have h := op_ixl (M := M) ho hT hx hy (fun hp => by have := hz hp; have := hj hp; omega) hp
  rwa [Nat.mul_one, show z.toNat = j by have := hz hp; omega] at h
theorem tw_at {a b c : Value} {ws : List Nat} {R : List Value} {j : Nat} (h : j < ws.length) : (a :: b :: c :: (ws.map u32v ++ R))[3 + j]? = some (u32v (ws.getD j 0)) := by
  rw [Nat.add_comm, List.getElem?_cons_succ, List.getElem?_cons_succ, List.getElem?_cons_succ, List.getElem?_append_left (by simpa using h), List.getElem?_map, List.getD_eq_getElem?_getD, List.getElem?_eq_getElem h]
  rfl
theorem op_wld {T T' : TypeId} {x : Operand} {i j : Nat} {a b c : Value} {ws : List Nat} {R : List Value} (ho : o.op = .load T x) (hT : tyB P T = some (false, 1)) (hx : Ev pc F x (.loc i (3 + j))) (hM : M[i]? = some (.flat T' (a :: b :: c :: (ws.map u32v ++ R)))) (hj : pc = true → j < ws.length) : DOp P pc o F M [i] (.val (.int .u32 ((ws.getD j 0 : Nat) : Int))) [] := fun hp =>
  op_ldo ho hT hx hM (tw_at (hj hp)) hp
theorem op_wst {T T' : TypeId} {rw' : Bool} {x y : Operand} {i j n : Nat} {a b c : Value} {ws : List Nat} {R : List Value} (ho : o.op = .store T x y) (hT : tyB P T = some (rw', 1)) (hx : Ev pc F x (.loc i (3 + j))) (hy : Ev pc F y (.val (.int .u32 (n : Int)))) (hM : M[i]? = some (.flat T' (a :: b :: c :: (ws.map u32v ++ R)))) (hj : pc = true → j < ws.length) : DOp P pc o F M [i] .junk [(i, .flat T' (a :: b :: c :: ((ws.set j n).map u32v ++ R)))] := fun hp => by
  have h := hj hp
  refine op_st1 ho hT hx hy hM (by simp; omega) ?_ hp
  rw [Nat.add_comm, List.set_cons_succ, List.set_cons_succ, List.set_cons_succ, List.set_append, if_pos (by simpa using h), List.map_set]
  rfl
end
theorem feed_eq {r b : Nat} (hr : r < 2 ^ 32) (hb : b < 256) : (r >>> 8) ^^^ tabW.getD ((r % 256) ^^^ b) 0 = Zs 8 (r ^^^ b) := by
  have h1 : r % 256 < 2 ^ 8 := by omega
  have h2 : (r % 256) ^^^ b < 256 := Nat.xor_lt_two_pow (n := 8) h1 (by omega)
  have e : r = (r % 256) ^^^ ((r >>> 8) <<< 8) := by
    rw [low_xor (by omega), Nat.shiftRight_eq_div_pow]
    omega
  rw [tabW_at h2]
  conv => rhs; rw [e]
  have e2 : (r % 256 ^^^ (r >>> 8) <<< 8) ^^^ b = (r % 256 ^^^ b) ^^^ ((r >>> 8) <<< 8) := by
    rw [Nat.xor_assoc, Nat.xor_comm ((r >>> 8) <<< 8), ← Nat.xor_assoc]
  rw [e2, Zs_xor 8 (r % 256 ^^^ b) ((r >>> 8) <<< 8), Zs_shl, Nat.xor_comm]
theorem xor_b {a b : Nat} (ha : a < 256) (hb : b < 256) : xorZ .u8 (a : Int) (b : Int) = ((a ^^^ b : Nat) : Int) := by
  have e : (BitVec.ofInt 8 (a : Int) ^^^ BitVec.ofInt 8 (b : Int)).toNat = a ^^^ b := by
    rw [BitVec.ofInt_natCast, BitVec.ofInt_natCast, BitVec.toNat_xor, BitVec.toNat_ofNat, BitVec.toNat_ofNat, Nat.mod_eq_of_lt ha, Nat.mod_eq_of_lt hb]
  have h := Nat.xor_lt_two_pow (n := 8) ha hb
  show IntKind.u8.wrap (((BitVec.ofInt 8 (a : Int) ^^^ BitVec.ofInt 8 (b : Int)).toNat : Nat) : Int) = _
  rw [e]
  exact IntWalk.u8_in _ (by omega)
/-- .. behind n bytes -/
def regB (n bits : Nat) : List Value := match n with
  | 0 => regL 0 (List.replicate 256 0) bits
  | _ + 1 => regL 1 tabW bits
section
variable {P : Program} {pc : Bool} {o : Oper} {F : Fr} {M : List Blk}
theorem bits_pos {a b c v : Value} {ws : List Nat} (h : ws.length = 256) : (a :: b :: c :: (ws.map u32v ++ [v]))[259]? = some v := by
  show (ws.map u32v ++ [v])[256]? = some v
  rw [List.getElem?_append_right (by simp [h])]
  simp [h]
theorem op_bits {T T' : TypeId} {x : Operand} {i : Nat} {a b c v : Value} {ws : List Nat} (h : ws.length = 256) (ho : o.op = .load T x) (hT : tyB P T = some (false, 1)) (hx : Ev pc F x (.loc i 259)) (hM : M[i]? = some (.flat T' (a :: b :: c :: (ws.map u32v ++ [v])))) : DOp P pc o F M [i] (.val v) [] :=
  op_ldo ho hT hx hM (bits_pos h)
theorem op_reg {T T' : TypeId} {x : Operand} {i n bits : Nat} (ho : o.op = .load T x) (hT : tyB P T = some (false, 1)) (hx : Ev pc F x (.loc i 259)) (hM : M[i]? = some (.flat T' (regB n bits))) : DOp P pc o F M [i] (.val (.int .u32 (bits : Int))) [] := by
  cases n with
  | zero => exact op_bits (by rw [List.length_replicate]) ho hT hx hM
  | succ n => exact op_bits tabW_len ho hT hx hM
theorem op_bst {T T' : TypeId} {rw' : Bool} {x y : Operand} {i : Nat} {n : Int} {a b c v : Value} {ws : List Nat} (h : ws.length = 256) (ho : o.op = .store T x y) (hT : tyB P T = some (rw', 1)) (hx : Ev pc F x (.loc i 259)) (hy : Ev pc F y (.val (.int .u32 n))) (hM : M[i]? = some (.flat T' (a :: b :: c :: (ws.map u32v ++ [v])))) : DOp P pc o F M [i] .junk [(i, .flat T' (a :: b :: c :: (ws.map u32v ++ [.int .u32 n])))] := by
  refine op_st1 ho hT hx hy hM (by simp [h]) ?_
  show a :: b :: c :: ((ws.map u32v ++ [v]).set 256 (.int .u32 n)) = _
  rw [List.set_append, if_neg (by simp [h])]
  simp [h]
end

set_option maxRecDepth 4000 in
set_option maxHeartbeats 1000000 in
theorem halved_d (n : Nat) (hn : n < 2 ^ 32) : DFun Try.prog 48 [.val (.int .u32 (n : Int))] [] (.val (.int .u32 (Zr n : Nat))) [] := by
  refine dcalls_go (N := 11) 0 (by kernel_rfl) Try.func48 rfl rfl rfl (by simp only [fr0, Nat.zero_add, Nat.reduceAdd]; exact rfl) rfl fun s0 hs0 => ?_
  refine dwp_seq ?_
  refine dwp_region ?_
  refine walk_r rfl rfl rfl (op_move (.inr rfl) (ev1 rfl)) ?_
  refine walk_nil ?_
  refine dwp_seq ?_
  refine dwp_seq ?_
  refine dwp_region ?_
  refine walk_r rfl rfl rfl (op_move (.inl rfl) (ev1 rfl)) ?_
  refine walk_r rfl rfl rfl (op_iand rfl (ev1 rfl) (ev1 rfl)) ?_
  refine walk_r rfl rfl rfl (op_eql rfl (ev1 rfl) (ev1 rfl)) ?_
  refine walk_nil ?_
  refine dwp_cond rfl (fun h => ?_) (fun h => ?_)
  · have h1 : n % 2 = 1 := by rw [and_one hn] at h; have := of_decide_eq_true h; omega
    refine dwp_seq ?_
    refine dwp_region ?_
    refine walk_r rfl rfl rfl (op_move (.inl rfl) (ev1 rfl)) ?_
    refine walk_r rfl rfl rfl (op_shr (1) rfl (ev1 rfl) (ev1 rfl) (fun hp => by first | exact ⟨by omega, by decide⟩ | (simp [IntKind.bits]; omega))) ?_
    refine walk_r rfl rfl rfl (op_ixor rfl (ev1 rfl) (ev1 rfl)) ?_
    refine walk_r rfl rfl rfl (op_move (.inr rfl) (ev1 rfl)) ?_
    refine walk_nil ?_
    refine dwp_ret ?_
    refine kend0 (rs1 rfl (rv_t rfl)) rfl ?_
    rw [halved_t hn h1]
  · have h1 : ¬ n % 2 = 1 := by rw [and_one hn] at h; have := of_decide_eq_false h; omega
    refine dwp_skip ?_
    refine dwp_seq ?_
    refine dwp_region ?_
    refine walk_r rfl rfl rfl (op_move (.inl rfl) (ev1 rfl)) ?_
    refine walk_r rfl rfl rfl (op_shr (1) rfl (ev1 rfl) (ev1 rfl) (fun hp => by first | exact ⟨by omega, by decide⟩ | (simp [IntKind.bits]; omega))) ?_
    refine walk_r rfl rfl rfl (op_move (.inr rfl) (ev1 rfl)) ?_
    refine walk_nil ?_
    refine dwp_ret ?_
    refine kend0 (rs1 rfl (rv_t rfl)) rfl ?_
    rw [halved_f h1]

set_option maxRecDepth 4000 in
set_option maxHeartbeats 1000000 in
theorem fill_d (T : TypeId) (d m q : Int) (R : List Value) : DFun Try.prog 44 [.loc 0 0] [.flat T (.int .u32 d :: .int .i32 m :: .int .u32 q :: (List.replicate 256 0).map u32v ++ R)] (.tup []) [.flat T (.int .u32 d :: .int .i32 m :: .int .u32 q :: (tabW).map u32v ++ R)] := by
  refine dcalls_go (N := 47) 1 (by kernel_rfl) Try.func44 rfl rfl rfl (by simp only [fr0, Nat.zero_add, Nat.reduceAdd]; exact rfl) rfl fun s0 hs0 => ?_
  refine dwp_seq ?_
  refine dwp_region ?_
  refine walk_r rfl rfl rfl (op_move (.inr rfl) (ev1 rfl)) ?_
  refine walk_nil ?_
  refine dwp_seq ?_
  refine dwp_seq ?_
  refine dwp_region ?_
  refine walk_r rfl rfl rfl (op_move (.inl rfl) (ev1 rfl)) ?_
  refine walk_nil ?_
  refine dwp_block ?_
  refine dwp_loopS ⟨hs0, rfl⟩ (α := Nat) (fun k => [(2, .val (.int .u32 (Zs k 1 : Nat))), (6, .val (.int .i64 (k : Int)))]) [(0, _)] (fun k => [(0, .flat T (.int .u32 d :: .int .i32 m :: .int .u32 q :: (f1 k).map u32v ++ R))]) [.hole] (fun k => k ≤ 8) (fun k => 8 - k) 0 [0] (by simp) rfl ⟨rfl, trivial⟩ ⟨rfl, rfl, trivial⟩ ⟨rfl, trivial⟩ ?_
  intro k hx
  simp only [upd, List.set_cons_zero, List.set_cons_succ, List.cons_append, List.nil_append]
  have hk := hx
  have hlen := f1_len k
  have hzl : Zs k 1 < 2 ^ 32 := Zs_lt k (by decide)
  refine dwp_seq ?_
  refine dwp_region ?_
  refine walk_r rfl rfl rfl (op_lss rfl (ev1 rfl) (ev1 rfl)) ?_
  refine walk_nil ?_
  refine dwp_seq ?_
  refine dwp_cond rfl (fun c1 => ?_) (fun c1 => ?_)
  · try simp only [decide_eq_true_eq, decide_eq_false_iff_not, beq_iff_eq, bne_iff_ne, beq_eq_false_iff_ne, bne_eq_false_iff_eq, Bool.not_eq_true', Bool.not_eq_false', Bool.and_eq_true, Bool.or_eq_true, Bool.or_eq_false_iff, ne_eq, Decidable.not_not, Int.not_lt, Int.not_le] at c1
    refine dwp_skip ?_
    refine dwp_seq ?_
    refine dwp_block ?_
    refine dwp_seq ?_
    refine dwp_region ?_
    refine walk_r rfl rfl rfl (op_move (.inl rfl) (ev1 rfl)) ?_
    refine walk_r rfl rfl rfl (op_move (.inr rfl) (ev1 rfl)) ?_
    refine walk_nil ?_
    refine dwp_seq ?_
    refine dwp_region ?_
    refine walk_r rfl rfl rfl (op_move (.inl rfl) (ev1 rfl)) ?_
    refine walk_r rfl rfl rfl (dop_call [] [] [] rfl (ev1 rfl) (ec (ev1 rfl) en) rfl rfl (halved_d (Zs k 1) hzl) rfl rfl rfl rfl rfl rfl) ?_
    refine walk_r rfl rfl rfl (op_move (.inr rfl) (ev1 rfl)) ?_
    refine walk_nil ?_
    refine dwp_draw [([], []), ([], []), ([], []), ([], []), ([], []), ([], []), ([], []), ([0], [0])] mixed (by kernel_rfl) ?_
    refine lex_r rfl rfl (op_move (.inl rfl) (ev1 rfl)) ?_
    refine lex_r rfl rfl (op_move (.inl rfl) (ev1 rfl)) ?_
    refine lex_r rfl rfl (op_shr (k) rfl (ev1 rfl) (ev1 rfl) (fun hp => by first | exact ⟨by omega, by decide⟩ | (simp [IntKind.bits]; omega))) ?_
    refine lex_r rfl rfl (op_move (.inl rfl) (ev1 rfl)) ?_
    refine lex_r rfl rfl (op_nc rfl (ev1 rfl) (fun s v h => by cases h; exact ⟨_, rfl⟩)) ?_
    refine lex_r rfl rfl (op_fa rfl fo70_1 (ev1 rfl)) ?_
    refine lex_r rfl rfl (op_wix (128 >>> k) rfl ar32 (ev1 rfl) (ev1 rfl) (fun _ => shr_n 128 k) (fun _ => by rw [Nat.shiftRight_eq_div_pow]; exact Nat.lt_of_le_of_lt (Nat.div_le_self _ _) (by decide))) ?_
    refine lex_s rfl rfl (op_wst rfl tb27 (ev1 rfl) (ev1 rfl) rfl (fun _ => by rw [hlen, Nat.shiftRight_eq_div_pow]; exact Nat.lt_of_le_of_lt (Nat.div_le_self _ _) (by decide))) rfl (by simp only [upd, List.set_cons_zero, List.set_cons_succ]; exact rfl) ?_
    refine lex_nil ?_
    refine dwp_region ?_
    refine walk_r rfl rfl rfl (op_add' rfl (ev1 rfl) (ev1 rfl) (fun _ => IntWalk.i64_in _ (by omega))) ?_
    refine walk_r rfl rfl rfl (op_move (.inl rfl) (ev1 rfl)) ?_
    refine walk_nil ?_
    refine ⟨k + 1, [0], by omega, by simp only []; omega, rfl, ⟨by rw [Zs_succ]; rfl, rfl, rfl, trivial⟩, ⟨by rw [f1, Zs_succ]; rfl, trivial⟩⟩
  · try simp only [decide_eq_true_eq, decide_eq_false_iff_not, beq_iff_eq, bne_iff_ne, beq_eq_false_iff_ne, bne_eq_false_iff_eq, Bool.not_eq_true', Bool.not_eq_false', Bool.and_eq_true, Bool.or_eq_true, Bool.or_eq_false_iff, ne_eq, Decidable.not_not, Int.not_lt, Int.not_le] at c1
    refine dwp_exit ?_
    refine dwp_seq ?_
    obtain rfl : k = 8 := by omega
    refine dwp_region ?_
    refine walk_r rfl rfl rfl (op_move (.inl rfl) (ev1 rfl)) ?_
    refine walk_nil ?_
    refine dwp_block ?_
    refine dwp_loopS ⟨hs0, rfl⟩ (α := Nat) (fun b => [(19, .val (.int .i64 (b : Int)))]) [(0, _)] (fun b => [(0, .flat T (.int .u32 d :: .int .i32 m :: .int .u32 q :: (f2 b).map u32v ++ R))]) [.hole] (fun b => b ≤ 256) (fun b => 256 - b) 0 [0] (by simp) rfl ⟨rfl, trivial⟩ ⟨rfl, trivial⟩ ⟨rfl, trivial⟩ ?_
    intro b hx
    simp only [upd, List.set_cons_zero, List.set_cons_succ, List.cons_append, List.nil_append]
    have hk := hx
    have hlen := f2_len b
    refine dwp_seq ?_
    refine dwp_region ?_
    refine walk_r rfl rfl rfl (op_lss rfl (ev1 rfl) (ev1 rfl)) ?_
    refine walk_nil ?_
    refine dwp_seq ?_
    refine dwp_cond rfl (fun c2 => ?_) (fun c2 => ?_)
    · try simp only [decide_eq_true_eq, decide_eq_false_iff_not, beq_iff_eq, bne_iff_ne, beq_eq_false_iff_ne, bne_eq_false_iff_eq, Bool.not_eq_true', Bool.not_eq_false', Bool.and_eq_true, Bool.or_eq_true, Bool.or_eq_false_iff, ne_eq, Decidable.not_not, Int.not_lt, Int.not_le] at c2
      refine dwp_skip ?_
      refine dwp_seq ?_
      refine dwp_block ?_
      refine dwp_seq ?_
      refine dwp_region ?_
      refine walk_r rfl rfl rfl (op_move (.inl rfl) (ev1 rfl)) ?_
      refine walk_r rfl rfl rfl (op_move (.inr rfl) (ev1 rfl)) ?_
      refine walk_nil ?_
      refine dwp_seq ?_
      obtain ⟨q1, q2, q3, q4, _⟩ := bits_at (show b < 256 by omega)
      refine dwp_region ?_
      refine walk_r rfl rfl rfl (op_move (.inl rfl) (ev1 rfl)) ?_
      refine walk_r rfl rfl rfl (op_move (.inl rfl) (ev1 rfl)) ?_
      refine walk_r rfl rfl rfl (op_neg rfl (ev1 rfl)) ?_
      refine walk_r rfl rfl rfl (op_iand rfl (ev1 rfl) (ev1 rfl)) ?_
      refine walk_r rfl rfl rfl (op_move (.inr rfl) (ev1 rfl)) ?_
      refine walk_nil ?_
      rw [q1]
      refine dwp_draw [([], []), ([], []), ([], []), ([], []), ([], []), ([], []), ([], []), ([0], []), ([], []), ([], []), ([], []), ([], []), ([], []), ([], []), ([], []), ([0], []), ([], []), ([], []), ([], []), ([], []), ([0], [0])] mixed (by kernel_rfl) ?_
      refine lex_r rfl rfl (op_move (.inl rfl) (ev1 rfl)) ?_
      refine lex_r rfl rfl (op_move (.inl rfl) (ev1 rfl)) ?_
      refine lex_r rfl rfl (op_move (.inl rfl) (ev1 rfl)) ?_
      refine lex_r rfl rfl (op_move (.inl rfl) (ev1 rfl)) ?_
      refine lex_r rfl rfl (op_nc rfl (ev1 rfl) (fun s v h => by cases h; exact ⟨_, rfl⟩)) ?_
      refine lex_r rfl rfl (op_fa rfl fo70_1 (ev1 rfl)) ?_
      refine lex_r rfl rfl (op_wix (lowB b) rfl ar32 (ev1 rfl) (ev1 rfl) (fun _ => rfl) (fun _ => by omega)) ?_
      refine lex_r rfl rfl (op_wld rfl tb27 (ev1 rfl) rfl (fun _ => by omega)) ?_
      refine lex_r rfl rfl (op_move (.inl rfl) (ev1 rfl)) ?_
      refine lex_r rfl rfl (op_move (.inl rfl) (ev1 rfl)) ?_
      refine lex_r rfl rfl (op_move (.inl rfl) (ev1 rfl)) ?_
      refine lex_r rfl rfl (op_ixor rfl (ev1 rfl) (ev1 rfl)) ?_
      refine lex_r rfl rfl (op_nc rfl (ev1 rfl) (fun s v h => by cases h; exact ⟨_, rfl⟩)) ?_
      refine lex_r rfl rfl (op_fa rfl fo70_1 (ev1 rfl)) ?_
      refine lex_r rfl rfl (op_wix (offB b) rfl ar32 (ev1 rfl) (ev1 rfl) (fun _ => q3) (fun _ => by omega)) ?_
      refine lex_r rfl rfl (op_wld rfl tb27 (ev1 rfl) rfl (fun _ => by omega)) ?_
      refine lex_r rfl rfl (op_ixor rfl (ev1 rfl) (ev1 rfl)) ?_
      refine lex_r rfl rfl (op_nc rfl (ev1 rfl) (fun s v h => by cases h; exact ⟨_, rfl⟩)) ?_
      refine lex_r rfl rfl (op_fa rfl fo70_1 (ev1 rfl)) ?_
      refine lex_r rfl rfl (op_wix (b) rfl ar32 (ev1 rfl) (ev1 rfl) (fun _ => rfl) (fun _ => by omega)) ?_
      refine lex_s rfl rfl (op_wst (n := (f2 b).getD (lowB b) 0 ^^^ (f2 b).getD (offB b) 0) rfl tb27 (ev1 rfl) ⟨_, rfl, fun s v _ hr => by rw [← xor_n (getD_lt (f2_lt b) _) (getD_lt (f2_lt b) _)]; exact hr⟩ rfl (fun _ => by omega)) rfl (by simp only [upd, List.set_cons_zero, List.set_cons_succ]; exact rfl) ?_
      refine lex_nil ?_
      refine dwp_region ?_
      refine walk_r rfl rfl rfl (op_add' rfl (ev1 rfl) (ev1 rfl) (fun _ => IntWalk.i64_in _ (by omega))) ?_
      refine walk_r rfl rfl rfl (op_move (.inl rfl) (ev1 rfl)) ?_
      refine walk_nil ?_
      refine ⟨b + 1, [0], by omega, by simp only []; omega, rfl, ⟨rfl, rfl, trivial⟩, ⟨rfl, trivial⟩⟩
    · try simp only [decide_eq_true_eq, decide_eq_false_iff_not, beq_iff_eq, bne_iff_ne, beq_eq_false_iff_ne, bne_eq_false_iff_eq, Bool.not_eq_true', Bool.not_eq_false', Bool.and_eq_true, Bool.or_eq_true, Bool.or_eq_false_iff, ne_eq, Decidable.not_not, Int.not_lt, Int.not_le] at c2
      refine dwp_exit ?_
      obtain rfl : b = 256 := by omega
      rw [show f2 256 = tabW from rfl]
      refine kend [0] (res_none rfl) rfl rfl ?_ ⟨rfl, trivial⟩
      rfl

end Go.Proofs.Ytnpfbeoibbejeaa
