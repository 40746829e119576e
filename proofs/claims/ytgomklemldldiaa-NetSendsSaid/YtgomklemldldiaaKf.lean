/- words, and their bytes -/
import Derived.Test.YtgomklemldldiaaKa
namespace Go.Proofs.Ytgomklemldldiaa
set_option linter.unusedVariables false
set_option linter.unusedSimpArgs false
open Go.RowKit

def lo4 (w : Nat) : Nat → List Nat
  | 0 => [0, 0, 0, 0]
  | k + 1 => (lo4 w k).set k ((w >>> (8 * k)) % 256)
theorem lo4_len (w : Nat) : ∀ k, (lo4 w k).length = 4
  | 0 => rfl
  | k + 1 => by rw [lo4, List.length_set, lo4_len w k]
theorem lo4_four {w : Nat} (h : w < 2 ^ 32) : lo4 w 4 = four w := by
  show [(w >>> 0) % 256, (w >>> 8) % 256, (w >>> 16) % 256, (w >>> 24) % 256] = [w % 256, w / 256 % 256, w / 65536 % 256, w / 16777216]
  simp only [Nat.shiftRight_eq_div_pow]
  congr 1
  · omega
  · congr 1
    congr 1
    congr 1
    omega
theorem byte_at (w k : Nat) : IntKind.u8.wrap ((w : Int) / 2 ^ (8 * k)) = (((w >>> (8 * k)) % 256 : Nat) : Int) := by
  rw [shr_n, IntKind.wrap_u8]
  omega
theorem un8_len (n : Nat) : (un8 n).length = 1 := rfl
theorem fln (l : List Nat) : (l.flatMap un8).length = l.length := by rw [flat_len un8_len, Nat.mul_one]
section
variable {P : Program} {pc : Bool} {o : Oper} {F : Fr} {M : List Blk}
theorem op_ldtab {T T' : TypeId} {x : Operand} {i : Nat} {a b c : Value} {R : List Value} (ho : o.op = .load T x) (hT : tyB P T = some (true, 256)) (hx : Ev pc F x (.loc i 3)) (hM : M[i]? = some (.flat T' (a :: b :: c :: (tabW.map u32v ++ R)))) : DOp P pc o F M [i] (.val (.agg (tabW.map u32v).toArray)) [] :=
  op_ldr ho hT hx hM (by show ((tabW.map u32v ++ R)).take 256 = _; rw [List.take_left' (by rw [List.length_map, tabW_len])]) (by rw [List.length_map, tabW_len])
end

set_option maxRecDepth 4000 in
set_option maxHeartbeats 1000000 in
theorem low_d (w : Nat) (hw : w < 2 ^ 32) : DFun Try.prog 55 [.val (.int .u32 (w : Int))] [] (.val (.agg ((four (w)).flatMap un8).toArray)) [] := by
  refine dcalls_go (N := 17) 0 (by kernel_rfl) Try.func55 rfl rfl rfl (by simp only [fr0, Nat.zero_add, Nat.reduceAdd]; exact rfl) rfl fun s0 hs0 => ?_
  refine dwp_seq ?_
  refine dwp_holes 1 (by simp only [holes, List.cons_append, List.nil_append]; exact rfl) ?_
  refine dwp_region ?_
  refine walk_w rfl rfl rfl (op_alloc 0 rfl zr91 rfl) (by simp only [upd, List.set_cons_zero, List.set_cons_succ]; exact rfl) ?_
  refine walk_nil ?_
  refine dwp_seq ?_
  refine dwp_holes 1 (by simp only [holes, List.cons_append, List.nil_append]; exact rfl) ?_
  refine dwp_region ?_
  refine walk_w rfl rfl rfl (op_alloc 1 rfl zr91 rfl) (by simp only [upd, List.set_cons_zero, List.set_cons_succ]; exact rfl) ?_
  refine walk_nil ?_
  refine dwp_seq ?_
  refine dwp_seq ?_
  refine dwp_region ?_
  refine walk_r rfl rfl rfl (op_move (.inl rfl) (ev1 rfl)) ?_
  refine walk_nil ?_
  refine dwp_block ?_
  refine dwp_loopS ⟨hs0, rfl⟩ (α := Nat) (fun k => [(5, .val (.int .i64 (k : Int)))]) [(0, _), (2, _), (3, _)] (fun k => [(1, .flat 91 ((lo4 w k).flatMap un8))]) [_, .hole] (fun k => k ≤ 4) (fun k => 4 - k) 0 [0, 1] (by simp) rfl ⟨rfl, rfl, rfl, trivial⟩ ⟨rfl, trivial⟩ ⟨rfl, rfl, trivial⟩ ?_
  intro k hx
  simp only [upd, List.set_cons_zero, List.set_cons_succ, List.cons_append, List.nil_append]
  have hk := hx
  refine dwp_seq ?_
  refine dwp_region ?_
  refine walk_r rfl rfl rfl (op_lss rfl (ev1 rfl) (ev1 rfl)) ?_
  refine walk_nil ?_
  refine dwp_seq ?_
  refine dwp_cond rfl (fun c1 => ?_) (fun c1 => ?_)
  · try simp only [decide_eq_true_eq, decide_eq_false_iff_not, beq_iff_eq, bne_iff_ne, beq_eq_false_iff_ne, bne_eq_false_iff_eq, Bool.not_eq_true', Bool.not_eq_false', Bool.and_eq_true, Bool.or_eq_true, Bool.or_eq_false_iff, ne_eq, Decidable.not_not, Int.not_lt, Int.not_le] at c1
    refine dwp_skip ?_
    refine dwp_seq ?_
    refine dwp_block ?_
    refine dwp_seq ?_
    refine dwp_region ?_
    refine walk_r rfl rfl rfl (op_move (.inl rfl) (ev1 rfl)) ?_
    refine walk_r rfl rfl rfl (op_move (.inr rfl) (ev1 rfl)) ?_
    refine walk_nil ?_
    refine dwp_region ?_
    refine walk_r rfl rfl rfl (op_move (.inl rfl) (ev1 rfl)) ?_
    refine walk_r rfl rfl rfl (op_move (.inl rfl) (ev1 rfl)) ?_
    refine walk_r rfl rfl rfl (op_move (.inl rfl) (ev1 rfl)) ?_
    refine walk_r rfl rfl rfl (op_mul' rfl (ev1 rfl) (ev1 rfl) (fun _ => IntWalk.i64_in _ (by omega))) ?_
    refine walk_r rfl rfl rfl (op_shr (8 * k) rfl (ev1 rfl) (ev1 rfl) (fun _ => ⟨by omega, by simp [IntKind.bits]; omega⟩)) ?_
    refine walk_r rfl rfl rfl (op_conv ty47 kn5 rfl (ev1 rfl)) ?_
    refine walk_r rfl rfl rfl (op_ixfr (j := k) rfl ar91 (ev1 rfl) (ev1 rfl) (fun _ => by omega) (fun _ => by omega)) ?_
    refine walk_s rfl rfl (op_stfr (q := (w >>> (8 * k)) % 256) (v := .int .u8 (((w >>> (8 * k)) % 256 : Nat) : Int)) rfl tb5 (ev1 rfl) ⟨_, rfl, fun s v _ hr => by rw [← byte_at]; exact hr⟩ rfl rfl rfl (fun _ => rfl) (fun _ => by rw [lo4_len]; omega)) (by simp only [upd, List.set_cons_zero, List.set_cons_succ]; exact rfl) ?_
    refine walk_nil ?_
    refine dwp_region ?_
    refine walk_r rfl rfl rfl (op_add' rfl (ev1 rfl) (ev1 rfl) (fun _ => IntWalk.i64_in _ (by omega))) ?_
    refine walk_r rfl rfl rfl (op_move (.inl rfl) (ev1 rfl)) ?_
    refine walk_nil ?_
    refine ⟨k + 1, [0, 1], by omega, by simp only []; omega, rfl, ⟨rfl, rfl, rfl, rfl, trivial⟩, ⟨rfl, rfl, trivial⟩⟩
  · try simp only [decide_eq_true_eq, decide_eq_false_iff_not, beq_iff_eq, bne_iff_ne, beq_eq_false_iff_ne, bne_eq_false_iff_eq, Bool.not_eq_true', Bool.not_eq_false', Bool.and_eq_true, Bool.or_eq_true, Bool.or_eq_false_iff, ne_eq, Decidable.not_not, Int.not_lt, Int.not_le] at c1
    refine dwp_exit ?_
    refine dwp_seq ?_
    obtain rfl : k = 4 := by omega
    rw [lo4_four hw]
    refine dwp_region ?_
    refine walk_r rfl rfl rfl (op_ldw rfl tb91 (ev1 rfl) rfl (by rw [fln]; rfl)) ?_
    refine walk_s rfl rfl (op_stwa rfl tb91 (ev1 rfl) (ev1 rfl) rfl rfl rfl rfl) (by simp only [upd, List.set_cons_zero, List.set_cons_succ]; exact rfl) ?_
    refine walk_nil ?_
    refine dwp_ret ?_
    refine kend0 (rs1 rfl (rv_w tb91 rfl rfl rfl)) rfl ?_
    rfl

def xs (D a x : Nat) : Nat → Nat
  | 0 => x
  | i + 1 => if D.testBit (8 * a + i) then xs D a x i ^^^ (1 <<< i) else xs D a x i
def cs (D a c : Nat) : Nat → Nat
  | 0 => c
  | i + 1 => if D.testBit (8 * a + i) then cs D a c i + 1 else cs D a c i
theorem one_shl (i j : Nat) : (1 <<< i).testBit j = decide (i = j) := by rw [Nat.one_shiftLeft, Nat.testBit_two_pow]
theorem mod_succ (E i : Nat) : E % 2 ^ (i + 1) = E % 2 ^ i ^^^ (if E.testBit i then 1 <<< i else 0) := by
  refine Nat.eq_of_testBit_eq fun j => ?_
  rw [Nat.testBit_xor, Nat.testBit_mod_two_pow, Nat.testBit_mod_two_pow]
  by_cases h : E.testBit i = true
  · rw [if_pos h, one_shl]
    by_cases e : i = j
    · subst e; simp [h]
    · simp only [e, decide_false, Bool.xor_false]
      by_cases h2 : j < i
      · simp [h2, show j < i + 1 by omega]
      · simp [h2, show ¬ j < i + 1 by omega]
  · rw [if_neg h, Nat.zero_testBit, Bool.xor_false]
    by_cases e : i = j
    · subst e; simp [h]
    · by_cases h2 : j < i
      · simp [h2, show j < i + 1 by omega]
      · simp [h2, show ¬ j < i + 1 by omega]
theorem xs_eq (D a x : Nat) : ∀ i, xs D a x i = x ^^^ ((D >>> (8 * a)) % 2 ^ i)
  | 0 => by rw [xs, Nat.pow_zero, Nat.mod_one, Nat.xor_zero]
  | i + 1 => by
    rw [xs, xs_eq D a x i, mod_succ, Nat.testBit_shiftRight]
    split
    · rw [Nat.xor_assoc]
    · rw [Nat.xor_zero]
theorem cs_zero (D a c : Nat) : ∀ i, cs D a c i = 0 ↔ c = 0 ∧ (D >>> (8 * a)) % 2 ^ i = 0
  | 0 => by rw [cs, Nat.pow_zero, Nat.mod_one]; simp
  | i + 1 => by
    have ih := cs_zero D a c i
    rw [cs, mod_succ, Nat.testBit_shiftRight]
    by_cases h : D.testBit (8 * a + i) = true
    · rw [if_pos h, if_pos h]
      constructor
      · intro h2; omega
      · rintro ⟨_, h2⟩
        exfalso
        have h3 := congrArg (fun z => z.testBit i) h2
        simp only [Nat.testBit_xor, Nat.testBit_mod_two_pow, one_shl, Nat.zero_testBit] at h3
        simp at h3
    · rw [if_neg h, if_neg h, Nat.xor_zero]; exact ih
theorem cs_le (D a c : Nat) : ∀ i, cs D a c i ≤ c + i
  | 0 => Nat.le_refl _
  | i + 1 => by
    have := cs_le D a c i
    rw [cs]
    split <;> omega
theorem xs_lt {D a x : Nat} (h : x < 256) {i : Nat} (hi : i ≤ 8) : xs D a x i < 256 := by
  rw [xs_eq]
  refine Nat.xor_lt_two_pow (n := 8) h ?_
  exact Nat.lt_of_lt_of_le (Nat.mod_lt _ (Nat.pow_pos (by decide))) (Nat.pow_le_pow_right (n := 2) (by decide) hi)
def spJ (D : Nat) (l : List Nat) (f : Nat) : Nat → List Nat
  | 0 => l
  | j + 1 => (spJ D l f j).set (f + j) (xs D (f + j) (l.getD (f + j) 0) 8)
def cJ (D f : Nat) : Nat → Nat
  | 0 => 0
  | j + 1 => cs D (f + j) (cJ D f j) 8
theorem spJ_len (D : Nat) (l : List Nat) (f : Nat) : ∀ j, (spJ D l f j).length = l.length
  | 0 => rfl
  | j + 1 => by rw [spJ, List.length_set, spJ_len D l f j]
theorem spJ_at (D : Nat) (l : List Nat) (f : Nat) : ∀ (j k : Nat), (spJ D l f j)[k]? = if f ≤ k ∧ k < f + j then (l[k]?).map (fun x => x ^^^ ((D >>> (8 * k)) % 256)) else l[k]?
  | 0, k => by rw [spJ, if_neg (by omega)]
  | j + 1, k => by
    rw [spJ, List.getElem?_set, spJ_at D l f j k, spJ_len]
    by_cases e : f + j = k
    · subst e
      rw [if_pos rfl]
      by_cases hl : f + j < l.length
      · rw [if_pos hl, if_pos ⟨by omega, by omega⟩, List.getElem?_eq_getElem hl, xs_eq, List.getD_eq_getElem?_getD, List.getElem?_eq_getElem hl]; rfl
      · rw [if_neg hl, if_pos ⟨by omega, by omega⟩, List.getElem?_eq_none (by omega)]; rfl
    · rw [if_neg e]
      by_cases h : f ≤ k ∧ k < f + j
      · rw [if_pos h, if_pos (by omega)]
      · rw [if_neg h, if_neg (by omega)]
theorem cJ_le (D f : Nat) : ∀ j, cJ D f j ≤ 8 * j
  | 0 => Nat.le_refl _
  | j + 1 => by
    have h1 := cJ_le D f j
    have h2 := cs_le D (f + j) (cJ D f j) 8
    rw [cJ]; omega
theorem cJ_zero (D f : Nat) : ∀ j, cJ D f j = 0 ↔ ∀ k, f ≤ k → k < f + j → (D >>> (8 * k)) % 256 = 0
  | 0 => by simp [cJ]; intro k h1 h2; omega
  | j + 1 => by
    rw [cJ, cs_zero, cJ_zero D f j]
    constructor
    · rintro ⟨h1, h2⟩ k hk hk2
      by_cases e : k = f + j
      · subst e; exact h2
      · exact h1 k hk (by omega)
    · intro h
      exact ⟨fun k hk hk2 => h k hk (by omega), h _ (by omega) (by omega)⟩
def spl (D : Nat) (l : List Nat) : List Nat := l.mapIdx fun k x => x ^^^ ((D >>> (8 * k)) % 256)
theorem spl_len (D : Nat) (l : List Nat) : (spl D l).length = l.length := by simp [spl]
theorem spl_at (D : Nat) (l : List Nat) (k : Nat) : (spl D l)[k]? = (l[k]?).map (fun x => x ^^^ ((D >>> (8 * k)) % 256)) := by simp [spl]
theorem spl_lt {D : Nat} {l : List Nat} (h : ∀ x ∈ l, x < 256) : ∀ x ∈ spl D l, x < 256 := by
  intro x hx
  obtain ⟨k, hk⟩ := List.mem_iff_getElem?.1 hx
  rw [spl_at, Option.map_eq_some_iff] at hk
  obtain ⟨y, hy, rfl⟩ := hk
  exact Nat.xor_lt_two_pow (n := 8) (h y (List.mem_of_getElem? hy)) (Nat.mod_lt _ (by decide))
theorem mask_out {mask bit k : Nat} (hm : mask < 2 ^ 32) (h : k < bit / 8 ∨ bit / 8 + 5 ≤ k) : ((mask <<< bit) >>> (8 * k)) % 256 = 0 := by
  refine Nat.eq_of_testBit_eq fun i => ?_
  rw [Nat.zero_testBit, show 256 = 2 ^ 8 from rfl, Nat.testBit_mod_two_pow, Nat.testBit_shiftRight, Nat.testBit_shiftLeft]
  by_cases hi : i < 8
  · rcases h with h | h
    · rw [decide_eq_false (show ¬ 8 * k + i ≥ bit by omega)]; simp
    · have : mask.testBit (8 * k + i - bit) = false := Nat.testBit_lt_two_pow (Nat.lt_of_lt_of_le hm (Nat.pow_le_pow_right (n := 2) (by decide) (by omega)))
      rw [this]; simp
  · simp [hi]
theorem spJ_spl {mask bit : Nat} (hm : mask < 2 ^ 32) (l : List Nat) {j : Nat} (hj : bit / 8 + j = l.length ∨ 5 ≤ j) : spJ (mask <<< bit) l (bit / 8) j = spl (mask <<< bit) l := by
  refine List.ext_getElem? fun k => ?_
  rw [spJ_at, spl_at]
  split
  · rfl
  · rename_i h
    by_cases hk : k < l.length
    · rw [mask_out hm (by omega), List.getElem?_eq_getElem hk]; simp
    · rw [List.getElem?_eq_none (by omega)]; rfl
theorem cJ_spl {mask bit : Nat} (hm : mask < 2 ^ 32) {n j : Nat} (hj : bit / 8 + j = n ∨ 5 ≤ j ∧ bit / 8 + j ≤ n) : cJ (mask <<< bit) (bit / 8) j = 0 ↔ ∀ k, k < n → ((mask <<< bit) >>> (8 * k)) % 256 = 0 := by
  rw [cJ_zero]
  constructor
  · intro h k hk
    by_cases h1 : bit / 8 ≤ k ∧ k < bit / 8 + j
    · exact h k h1.1 h1.2
    · exact mask_out hm (by omega)
  · intro h k h1 h2
    exact h k (by omega)
theorem meant_eq {mask bit n : Nat} (hm : mask < 2 ^ 32) : (decide (bit ≤ n) && decide (n - bit < 32) && decide ((mask >>> (n - bit)) % 2 = 1)) = (mask <<< bit).testBit n := by
  rw [Nat.testBit_shiftLeft, ← Nat.testBit_zero, Nat.testBit_shiftRight, Nat.add_zero]
  by_cases h : bit ≤ n
  · by_cases h2 : n - bit < 32
    · simp [h, h2]
    · have : mask.testBit (n - bit) = false := Nat.testBit_lt_two_pow (Nat.lt_of_lt_of_le hm (Nat.pow_le_pow_right (n := 2) (by decide) (by omega)))
      simp [this]
  · simp [h]

set_option maxRecDepth 4000 in
set_option maxHeartbeats 1000000 in
theorem meant_d (mask bit n : Nat) (hm : mask < 2 ^ 32) (hb : bit ≤ 4611686018427387904) (hn : n ≤ 4611686018427387904) : DFun Try.prog 80 [.val (.int .i64 (n : Int)), .loc 0 0, .loc 1 0] [.flat 3 [.int .i64 (bit : Int)], .flat 47 [.int .u32 (mask : Int)]] (.val (.bool ((mask <<< bit).testBit n))) [.flat 3 [.int .i64 (bit : Int)], .flat 47 [.int .u32 (mask : Int)]] := by
  refine dcalls_go (N := 23) 2 (by kernel_rfl) Try.func80 rfl rfl rfl (by simp only [fr0, Nat.zero_add, Nat.reduceAdd]; exact rfl) rfl fun s0 hs0 => ?_
  refine dwp_seq ?_
  refine dwp_region ?_
  refine walk_r rfl rfl rfl (op_move (.inr rfl) (ev1 rfl)) ?_
  refine walk_nil ?_
  refine dwp_seq ?_
  refine dwp_region ?_
  refine walk_r rfl rfl rfl (op_move (.inl rfl) (ev1 rfl)) ?_
  refine walk_r rfl rfl rfl (op_ldo rfl tb3 (ev1 rfl) rfl rfl) ?_
  refine walk_r rfl rfl rfl (op_geq rfl (ev1 rfl) (ev1 rfl)) ?_
  refine walk_r rfl rfl rfl (op_move (.inl rfl) (ev1 rfl)) ?_
  refine walk_gr (gd_t rfl rfl rfl) rfl rfl rfl (op_move (.inl rfl) (ev1 rfl)) ?_
  refine walk_gr (gd_t rfl rfl rfl) rfl rfl rfl (op_ldo rfl tb3 (ev1 rfl) rfl rfl) ?_
  refine walk_gr (gd_t rfl rfl rfl) rfl rfl rfl (op_sub' rfl (ev2 rfl) (ev2 rfl) (fun hp => IntWalk.i64_in _ (by first | omega | (simp at hp; omega)))) ?_
  refine walk_gr (gd_t rfl rfl rfl) rfl rfl rfl (op_lss rfl (ev2 rfl) (ev1 rfl)) ?_
  refine walk_r rfl rfl rfl (op_and rfl (ev1 rfl) (ev3 rfl id)) ?_
  refine walk_r rfl rfl rfl (op_move (.inl rfl) (ev1 rfl)) ?_
  refine walk_gr (gd_t rfl rfl rfl) rfl rfl rfl (op_ldo rfl tb47 (ev1 rfl) rfl rfl) ?_
  refine walk_gr (gd_t rfl rfl rfl) rfl rfl rfl (op_move (.inl rfl) (ev1 rfl)) ?_
  refine walk_gr (gd_t rfl rfl rfl) rfl rfl rfl (op_ldo rfl tb3 (ev1 rfl) rfl rfl) ?_
  refine walk_gr (gd_t rfl rfl rfl) rfl rfl rfl (op_sub' rfl (ev2 rfl) (ev2 rfl) (fun hp => IntWalk.i64_in _ (by first | omega | (simp at hp; omega)))) ?_
  refine walk_gr (gd_t rfl rfl rfl) rfl rfl rfl (op_shr (n - bit) rfl (ev2 rfl) (ev2 rfl) (fun hp => by simp at hp; exact ⟨by omega, by simp [IntKind.bits]; omega⟩)) ?_
  refine walk_gr (gd_t rfl rfl rfl) rfl rfl rfl (op_iand rfl (ev2 rfl) (ev1 rfl)) ?_
  refine walk_gr (gd_t rfl rfl rfl) rfl rfl rfl (op_eql rfl (ev2 rfl) (ev1 rfl)) ?_
  refine walk_r rfl rfl rfl (op_and rfl (ev1 rfl) (ev3 rfl id)) ?_
  refine walk_r rfl rfl rfl (op_move (.inr rfl) (ev1 rfl)) ?_
  refine walk_nil ?_
  refine dwp_ret ?_
  refine kend [0, 1] (rs1 rfl (rv_t rfl)) rfl rfl ?_ ⟨rfl, rfl, trivial⟩
  rw [← meant_eq hm, shr_n, and_one (by rw [Nat.shiftRight_eq_div_pow]; exact Nat.lt_of_le_of_lt (Nat.div_le_self _ _) hm)]
  generalize mask >>> (n - bit) % 2 = r
  rw [D.val.injEq, Value.bool.injEq, Bool.eq_iff_iff]
  simp
  omega

theorem meant_z (mask bit n : Nat) (z : Int) (hz : z = (n : Int)) (hm : mask < 2 ^ 32) (hb : bit ≤ 4611686018427387904) (hn : n ≤ 4611686018427387904) : DFun Try.prog 80 [.val (.int .i64 z), .loc 0 0, .loc 1 0] [.flat 3 [.int .i64 (bit : Int)], .flat 47 [.int .u32 (mask : Int)]] (.val (.bool ((mask <<< bit).testBit n))) [.flat 3 [.int .i64 (bit : Int)], .flat 47 [.int .u32 (mask : Int)]] := by
  subst hz; exact meant_d mask bit n hm hb hn
theorem shl_b {x i : Nat} (hx : x < 256) (hi : i < 8) : xorZ .u8 (x : Int) (IntKind.u8.wrap (1 * 2 ^ i)) = ((x ^^^ (1 <<< i) : Nat) : Int) := by
  have h1 : 1 <<< i < 256 := by
    rw [Nat.one_shiftLeft]
    exact Nat.lt_of_le_of_lt (Nat.pow_le_pow_right (n := 2) (by decide) (show i ≤ 7 by omega)) (by decide)
  have h2 : IntKind.u8.wrap (1 * 2 ^ i) = ((1 <<< i : Nat) : Int) := by
    rw [show (1 * 2 ^ i : Int) = ((1 <<< i : Nat) : Int) by rw [Nat.one_shiftLeft, Int.one_mul, Int.natCast_pow]; rfl]
    generalize 1 <<< i = y at h1
    exact IntWalk.u8_in _ (by omega)
  rw [h2]
  exact xor_b hx h1
theorem spJ_here {D : Nat} {l : List Nat} {f j : Nat} (h : f + j < (spJ D l f j).length) : (spJ D l f j)[f + j] = l.getD (f + j) 0 := by
  have h1 := spJ_at D l f j (f + j)
  rw [if_neg (by omega), List.getElem?_eq_getElem h] at h1
  rw [List.getD_eq_getElem?_getD, ← h1]
  rfl

set_option maxRecDepth 4000 in
set_option maxHeartbeats 1000000 in
theorem told_x (N o n : Nat) (L : List Nat) : DFun Try.prog 73 [.arr 0] [.arx 36 1 1 [.own 1 1 o n], .arr 5 1 N ((L).flatMap un8)] (.fn (.func 77) [] [.loc 2 0]) [.arx 36 1 1 [.own 1 1 o n], .arr 5 1 N ((L).flatMap un8), .mix 61 [.arr 0]] := by
  refine dcalls_go (N := 4) 2 (by kernel_rfl) Try.func73 rfl rfl rfl (by simp only [fr0, Nat.zero_add, Nat.reduceAdd]; exact rfl) rfl fun s0 hs0 => ?_
  refine dwp_seq ?_
  refine dwp_holes 1 (by simp only [holes, List.cons_append, List.nil_append]; exact rfl) ?_
  refine dwp_region ?_
  refine walk_w rfl rfl rfl (op_boxm 2 rfl (ev1 rfl) (fun s v h => by cases h <;> rfl) rfl) (by simp only [upd, List.set_cons_zero, List.set_cons_succ]; exact rfl) ?_
  refine walk_r rfl rfl rfl (op_move (.inr rfl) (ev1 rfl)) ?_
  refine walk_nil ?_
  refine dwp_seq ?_
  refine dwp_region ?_
  refine walk_r rfl rfl rfl (op_mkf rfl en (ec (ev1 rfl) en)) ?_
  refine walk_r rfl rfl rfl (op_move (.inr rfl) (ev1 rfl)) ?_
  refine walk_nil ?_
  refine dwp_ret ?_
  refine kend [0, 1, 2] (rs1 rfl (rv_t rfl)) rfl rfl ?_ ⟨rfl, rfl, rfl, trivial⟩
  rfl

noncomputable def tuA : Code := rfA (pth [1, 0, 1, 1, 0, 1, 0] (bodyOf Try.f79))
noncomputable def tuB : Code := rfB (pth [1, 0, 1, 1, 0, 1, 0] (bodyOf Try.f79))

set_option maxRecDepth 4000 in
set_option maxHeartbeats 1000000 in
theorem tuRound_stop (mask bit f c a x N : Nat) (q : List Nat) (hm : mask < 2 ^ 32) (hb : bit ≤ 4611686018427387904) (hf : f ≤ 1000000000000) (ha : a < q.length) (hq : q.length ≤ 1000000000000) (hx : x < 256) (hc : c ≤ 1000) (hN : N = q.length) (h : f + 4 < a) : DRound Try.prog 0 [.val (.int .u8 (x : Int))] [.lp 45 [(3, .loc 1 0), (4, .loc 2 0), (5, .loc 3 0), (7, .loc 4 0), (8, .loc 5 0)] #[17] tuA tuB .ready none, .mix 36 [.arr 6], .flat 3 [.int .i64 (f : Int)], .mix 136 [.fn (.func 80) [] [.loc 7 0, .loc 8 0]], .flat 3 [.int .i64 ((c : Nat) : Int)], .flat 3 [.int .i64 ((a : Nat) : Int)], .arr 5 1 N ((q).flatMap un8), .flat 3 [.int .i64 (bit : Int)], .flat 47 [.int .u32 (mask : Int)]] false [.lp 45 [(3, .loc 1 0), (4, .loc 2 0), (5, .loc 3 0), (7, .loc 4 0), (8, .loc 5 0)] #[17] tuA tuB .done (some (.exit 0)), .mix 36 [.arr 6], .flat 3 [.int .i64 (f : Int)], .mix 136 [.fn (.func 80) [] [.loc 7 0, .loc 8 0]], .flat 3 [.int .i64 ((c : Nat) : Int)], .flat 3 [.int .i64 ((a : Nat) : Int)], .arr 5 1 N ((q).flatMap un8), .flat 3 [.int .i64 (bit : Int)], .flat 47 [.int .u32 (mask : Int)]] := by
  refine dround_go 9 rfl rfl (by simp) rfl rfl fun s0 hs0 => ?_
  refine dwp_region ?_
  refine walk_r rfl rfl rfl (op_move (.inr rfl) (ev1 rfl)) ?_
  refine walk_nil ?_
  refine ⟨rfl, ?_⟩
  simp only [List.set_cons_zero, List.set_cons_succ]
  refine dwp_block ?_
  refine dwp_seq ?_
  refine dwp_seq ?_
  refine dwp_region ?_
  refine walk_r rfl rfl rfl (op_ldo rfl tb3 (ev1 rfl) rfl rfl) ?_
  refine walk_r rfl rfl rfl (op_ldo rfl tb3 (ev1 rfl) rfl rfl) ?_
  refine walk_r rfl rfl rfl (op_add' rfl (ev1 rfl) (ev1 rfl) (fun _ => IntWalk.i64_in _ (by omega))) ?_
  refine walk_r rfl rfl rfl (op_gtr rfl (ev1 rfl) (ev1 rfl)) ?_
  refine walk_nil ?_
  refine dwp_if_t rfl (decide_eq_true (by omega)) ?_
  refine dwp_exit ?_
  refine ⟨by first | rfl | assumption | simp_all, rfl, [0, 1, 2, 3, 4, 5, 6, 7, 8], rfl, ⟨rfl, rfl, rfl, rfl, rfl, rfl, rfl, rfl, rfl, trivial⟩⟩

set_option maxRecDepth 4000 in
set_option maxHeartbeats 1000000 in
theorem tuRound_go (mask bit f c a x N : Nat) (q : List Nat) (hm : mask < 2 ^ 32) (hb : bit ≤ 4611686018427387904) (hf : f ≤ 1000000000000) (ha : a < q.length) (hq : q.length ≤ 1000000000000) (hx : x < 256) (hc : c ≤ 1000) (hN : N = q.length) (h : a ≤ f + 4) : DRound Try.prog 0 [.val (.int .u8 (x : Int))] [.lp 45 [(3, .loc 1 0), (4, .loc 2 0), (5, .loc 3 0), (7, .loc 4 0), (8, .loc 5 0)] #[17] tuA tuB .ready none, .mix 36 [.arr 6], .flat 3 [.int .i64 (f : Int)], .mix 136 [.fn (.func 80) [] [.loc 7 0, .loc 8 0]], .flat 3 [.int .i64 ((c : Nat) : Int)], .flat 3 [.int .i64 ((a : Nat) : Int)], .arr 5 1 N ((q).flatMap un8), .flat 3 [.int .i64 (bit : Int)], .flat 47 [.int .u32 (mask : Int)]] true [.lp 45 [(3, .loc 1 0), (4, .loc 2 0), (5, .loc 3 0), (7, .loc 4 0), (8, .loc 5 0)] #[17] tuA tuB .ready none, .mix 36 [.arr 6], .flat 3 [.int .i64 (f : Int)], .mix 136 [.fn (.func 80) [] [.loc 7 0, .loc 8 0]], .flat 3 [.int .i64 (((cs (mask <<< bit) a c 8) : Nat) : Int)], .flat 3 [.int .i64 (((a + 1) : Nat) : Int)], .arr 5 1 N (((q.set a (xs (mask <<< bit) a x 8))).flatMap un8), .flat 3 [.int .i64 (bit : Int)], .flat 47 [.int .u32 (mask : Int)]] := by
  refine dround_go 9 rfl rfl (by simp) rfl rfl fun s0 hs0 => ?_
  refine dwp_region ?_
  refine walk_r rfl rfl rfl (op_move (.inr rfl) (ev1 rfl)) ?_
  refine walk_nil ?_
  refine ⟨rfl, ?_⟩
  simp only [List.set_cons_zero, List.set_cons_succ]
  refine dwp_block ?_
  refine dwp_seq ?_
  refine dwp_seq ?_
  refine dwp_region ?_
  refine walk_r rfl rfl rfl (op_ldo rfl tb3 (ev1 rfl) rfl rfl) ?_
  refine walk_r rfl rfl rfl (op_ldo rfl tb3 (ev1 rfl) rfl rfl) ?_
  refine walk_r rfl rfl rfl (op_add' rfl (ev1 rfl) (ev1 rfl) (fun _ => IntWalk.i64_in _ (by omega))) ?_
  refine walk_r rfl rfl rfl (op_gtr rfl (ev1 rfl) (ev1 rfl)) ?_
  refine walk_nil ?_
  refine dwp_if_f rfl (decide_eq_false (by omega)) ?_
  refine dwp_skip ?_
  refine dwp_seq ?_
  refine dwp_seq ?_
  refine dwp_region ?_
  refine walk_r rfl rfl rfl (op_move (.inl rfl) (ev1 rfl)) ?_
  refine walk_nil ?_
  refine dwp_block ?_
  refine dwp_loopS ⟨hs0, rfl⟩ (α := Nat) (fun i => [(9, .val (.int .u8 ((xs (mask <<< bit) a x i : Nat) : Int))), (22, .val (.int .i64 (i : Int)))]) [(3, _), (5, _), (7, _), (8, _)] (fun i => [(4, .flat 3 [.int .i64 ((cs (mask <<< bit) a c i : Nat) : Int)])]) [_, _, _, _, .hole, _, _, _, _] (fun i => i ≤ 8) (fun i => 8 - i) 0 [0, 1, 2, 3, 4, 5, 6, 7, 8] (by simp) rfl ⟨rfl, rfl, rfl, rfl, trivial⟩ ⟨rfl, rfl, trivial⟩ ⟨rfl, rfl, rfl, rfl, rfl, rfl, rfl, rfl, rfl, trivial⟩ ?_
  intro i hx_
  simp only [upd, List.set_cons_zero, List.set_cons_succ, List.cons_append, List.nil_append]
  have hi := hx_
  have hxl := xs_lt (D := mask <<< bit) (a := a) hx (show i ≤ 8 by omega)
  have hcl := cs_le (mask <<< bit) a c i
  refine dwp_seq ?_
  refine dwp_region ?_
  refine walk_r rfl rfl rfl (op_lss rfl (ev1 rfl) (ev1 rfl)) ?_
  refine walk_nil ?_
  refine dwp_seq ?_
  refine dwp_cond rfl (fun c2 => ?_) (fun c2 => ?_)
  · try simp only [decide_eq_true_eq, decide_eq_false_iff_not, beq_iff_eq, bne_iff_ne, beq_eq_false_iff_ne, bne_eq_false_iff_eq, Bool.not_eq_true', Bool.not_eq_false', Bool.and_eq_true, Bool.or_eq_true, Bool.or_eq_false_iff, ne_eq, Decidable.not_not, Int.not_lt, Int.not_le] at c2
    refine dwp_skip ?_
    refine dwp_seq ?_
    refine dwp_block ?_
    refine dwp_seq ?_
    refine dwp_region ?_
    refine walk_r rfl rfl rfl (op_move (.inl rfl) (ev1 rfl)) ?_
    refine walk_r rfl rfl rfl (op_move (.inr rfl) (ev1 rfl)) ?_
    refine walk_nil ?_
    refine dwp_seq ?_
    refine dwp_region ?_
    refine walk_r rfl rfl rfl (op_ldm rfl tb136 (ev1 rfl) rfl rfl) ?_
    refine walk_r rfl rfl rfl (op_ldo rfl tb3 (ev1 rfl) rfl rfl) ?_
    refine walk_r rfl rfl rfl (op_mul' rfl (ev1 rfl) (ev1 rfl) (fun _ => IntWalk.i64_in _ (by omega))) ?_
    refine walk_r rfl rfl rfl (op_move (.inl rfl) (ev1 rfl)) ?_
    refine walk_r rfl rfl rfl (op_add' rfl (ev1 rfl) (ev1 rfl) (fun _ => IntWalk.i64_in _ (by omega))) ?_
    refine walk_w rfl rfl rfl (dop_call [7, 8] [] [] rfl (ev1 rfl) (ec (ev1 rfl) en) rfl rfl (meant_z mask bit (8 * a + i) _ (by omega) hm hb (by omega)) rfl rfl rfl rfl rfl rfl) (by simp only [upd, List.set_cons_zero, List.set_cons_succ]; exact rfl) ?_
    refine walk_nil ?_
    refine dwp_cond rfl (fun hbt => ?_) (fun hbt => ?_)
    · refine dwp_seq ?_
      refine dwp_region ?_
      refine walk_r rfl rfl rfl (op_move (.inl rfl) (ev1 rfl)) ?_
      refine walk_r rfl rfl rfl (op_move (.inl rfl) (ev1 rfl)) ?_
      refine walk_r rfl rfl rfl (op_shl (i) rfl (ev1 rfl) (ev1 rfl) (fun _ => ⟨by omega, by simp [IntKind.bits]; omega⟩)) ?_
      refine walk_r rfl rfl rfl (op_ixor rfl (ev1 rfl) (ev1 rfl)) ?_
      refine walk_r rfl rfl rfl (op_move (.inr rfl) (ev1 rfl)) ?_
      refine walk_nil ?_
      refine dwp_region ?_
      refine walk_r rfl rfl rfl (op_ldo rfl tb3 (ev1 rfl) rfl rfl) ?_
      refine walk_r rfl rfl rfl (op_add' rfl (ev1 rfl) (ev1 rfl) (fun _ => IntWalk.i64_in _ (by omega))) ?_
      refine walk_s rfl rfl (op_stwi rfl tb3 (ev1 rfl) (ev1 rfl) rfl) (by simp only [upd, List.set_cons_zero, List.set_cons_succ]; exact rfl) ?_
      refine walk_nil ?_
      refine dwp_region ?_
      refine walk_r rfl rfl rfl (op_add' rfl (ev1 rfl) (ev1 rfl) (fun _ => IntWalk.i64_in _ (by omega))) ?_
      refine walk_r rfl rfl rfl (op_move (.inl rfl) (ev1 rfl)) ?_
      refine walk_nil ?_
      refine ⟨i + 1, [0, 1, 2, 3, 4, 5, 6, 7, 8], by omega, by simp only []; omega, rfl, ⟨congrArg (fun z => some (D.val (Value.int .u8 z))) (by rw [xs, if_pos hbt]; exact shl_b hxl (by omega)), rfl, rfl, rfl, rfl, rfl, trivial⟩, ⟨rfl, rfl, rfl, rfl, by rw [cs, if_pos hbt]; rfl, rfl, rfl, rfl, rfl, trivial⟩⟩
    · refine dwp_skip ?_
      refine dwp_region ?_
      refine walk_r rfl rfl rfl (op_add' rfl (ev1 rfl) (ev1 rfl) (fun _ => IntWalk.i64_in _ (by omega))) ?_
      refine walk_r rfl rfl rfl (op_move (.inl rfl) (ev1 rfl)) ?_
      refine walk_nil ?_
      refine ⟨i + 1, [0, 1, 2, 3, 4, 5, 6, 7, 8], by omega, by simp only []; omega, rfl, ⟨by rw [xs, if_neg (by rw [hbt]; simp)]; rfl, rfl, rfl, rfl, rfl, rfl, trivial⟩, ⟨rfl, rfl, rfl, rfl, by rw [cs, if_neg (by rw [hbt]; simp)]; rfl, rfl, rfl, rfl, rfl, trivial⟩⟩
  · try simp only [decide_eq_true_eq, decide_eq_false_iff_not, beq_iff_eq, bne_iff_ne, beq_eq_false_iff_ne, bne_eq_false_iff_eq, Bool.not_eq_true', Bool.not_eq_false', Bool.and_eq_true, Bool.or_eq_true, Bool.or_eq_false_iff, ne_eq, Decidable.not_not, Int.not_lt, Int.not_le] at c2
    refine dwp_exit ?_
    refine dwp_seq ?_
    obtain rfl : i = 8 := by omega
    refine dwp_region ?_
    refine walk_r rfl rfl rfl (op_ldm rfl tb36 (ev1 rfl) rfl rfl) ?_
    refine walk_r rfl rfl rfl (op_ldo rfl tb3 (ev1 rfl) rfl rfl) ?_
    refine walk_r rfl rfl rfl (op_move (.inl rfl) (ev1 rfl)) ?_
    refine walk_r rfl rfl rfl (op_ixar (j := a) rfl sl36 (ev1 rfl) (ev1 rfl) rfl (fun _ => by first | rfl | omega) (fun _ => by omega)) ?_
    refine walk_s rfl rfl (op_staf (l := q) (en := un8) (j := a) (c := 0) (0) (xs (mask <<< bit) a x 8) rfl tb5 (ev1 rfl) (ev1 rfl) rfl rfl rfl rfl (fun _ => rfl) (fun _ => by omega) (Nat.le_of_ble_eq_true rfl) rfl) (by simp only [upd, List.set_cons_zero, List.set_cons_succ]; exact rfl) ?_
    refine walk_nil ?_
    refine dwp_region ?_
    refine walk_r rfl rfl rfl (op_ldo rfl tb3 (ev1 rfl) rfl rfl) ?_
    refine walk_r rfl rfl rfl (op_add' rfl (ev1 rfl) (ev1 rfl) (fun _ => IntWalk.i64_in _ (by omega))) ?_
    refine walk_s rfl rfl (op_stwi rfl tb3 (ev1 rfl) (ev1 rfl) rfl) (by simp only [upd, List.set_cons_zero, List.set_cons_succ]; exact rfl) ?_
    refine walk_nil ?_
    refine ⟨by first | rfl | assumption | simp_all, rfl, [0, 1, 2, 3, 4, 5, 6, 7, 8], rfl, ⟨rfl, rfl, rfl, rfl, rfl, rfl, rfl, rfl, rfl, trivial⟩⟩

set_option maxRecDepth 4000 in
set_option maxHeartbeats 1000000 in
theorem told_turn (mask bit f n : Nat) (l : List Nat) (hm : mask < 2 ^ 32) (hb : bit ≤ 4611686018427387904) (hl : l.length ≤ 1000000000) (hfn : f + n = l.length) (hl2 : isN l) : DFun Try.prog 77 [.yld 0, .loc 9 0] [.lp 45 [(3, .loc 1 0), (4, .loc 2 0), (5, .loc 3 0), (7, .loc 4 0), (8, .loc 5 0)] #[17] tuA tuB .ready none, .mix 36 [.arr 6], .flat 3 [.int .i64 (f : Int)], .mix 136 [.fn (.func 80) [] [.loc 7 0, .loc 8 0]], .flat 3 [.int .i64 ((0 : Nat) : Int)], .flat 3 [.int .i64 ((f : Nat) : Int)], .arr 5 1 l.length ((l).flatMap un8), .flat 3 [.int .i64 (bit : Int)], .flat 47 [.int .u32 (mask : Int)], .mix 61 [.arr 10], .arx 36 1 1 [.own 6 1 f n]] (.tup []) [.lp 45 [(3, .loc 1 0), (4, .loc 2 0), (5, .loc 3 0), (7, .loc 4 0), (8, .loc 5 0)] #[17] tuA tuB (rst (decide (n ≤ 5))) (rpe (.exit 0) (decide (n ≤ 5))), .mix 36 [.arr 6], .flat 3 [.int .i64 (f : Int)], .mix 136 [.fn (.func 80) [] [.loc 7 0, .loc 8 0]], .flat 3 [.int .i64 (((cJ (mask <<< bit) f (min n 5)) : Nat) : Int)], .flat 3 [.int .i64 (((f + (min n 5)) : Nat) : Int)], .arr 5 1 l.length (((spJ (mask <<< bit) l f (min n 5))).flatMap un8), .flat 3 [.int .i64 (bit : Int)], .flat 47 [.int .u32 (mask : Int)], .mix 61 [.arr 10], .arx 36 1 1 [.own 6 1 f n]] := by
  refine dcalls_go (N := 25) 11 (by kernel_rfl) Try.func77 rfl rfl rfl (by simp only [fr0, Nat.zero_add, Nat.reduceAdd]; exact rfl) rfl fun s0 hs0 => ?_
  refine dwp_seq ?_
  refine dwp_region ?_
  refine walk_r rfl rfl rfl (op_ldm rfl tb61 (ev1 rfl) rfl rfl) ?_
  refine walk_r rfl rfl rfl (op_lenx rfl sl61 (ev1 rfl) rfl) ?_
  refine walk_r rfl rfl rfl (op_move (.inl rfl) (ev1 rfl)) ?_
  refine walk_nil ?_
  refine dwp_block ?_
  refine dwp_dloop (dloop_step ?_)
  refine dwp_seq ?_
  refine dwp_region ?_
  refine walk_r rfl rfl rfl (op_lss rfl (ev1 rfl) (ev1 rfl)) ?_
  refine walk_nil ?_
  refine dwp_seq ?_
  refine dwp_if_t rfl (rfl) ?_
  refine dwp_skip ?_
  refine dwp_seq ?_
  refine dwp_block ?_
  refine dwp_seq ?_
  refine dwp_region ?_
  refine walk_r rfl rfl rfl (op_ixx (0) rfl sl61 (ev1 rfl) (ev1 rfl) rfl (fun _ => rfl) (fun _ => by omega)) ?_
  refine walk_r rfl rfl rfl (op_ldx rfl tb36 (ev1 rfl) rfl rfl) ?_
  refine walk_r rfl rfl rfl (op_move (.inr rfl) (ev1 rfl)) ?_
  refine walk_nil ?_
  refine dwp_seq ?_
  refine dwp_region ?_
  refine walk_r rfl rfl rfl (op_move (.inl rfl) (ev1 rfl)) ?_
  refine walk_r rfl rfl rfl (op_leno rfl sl36 (ev1 rfl)) ?_
  refine walk_r rfl rfl rfl (op_move (.inl rfl) (ev1 rfl)) ?_
  refine walk_nil ?_
  refine dwp_block ?_
  refine dwp_loopS ⟨hs0, rfl⟩ (α := Nat) (fun j => [(15, .val (.int .i64 (j : Int)))]) [(0, _), (7, _), (8, _), (9, _), (13, _), (14, _)] (fun j => [(4, .flat 3 [.int .i64 ((cJ (mask <<< bit) f j : Nat) : Int)]), (5, .flat 3 [.int .i64 ((f + j : Nat) : Int)]), (6, .arr 5 1 l.length ((spJ (mask <<< bit) l f j).flatMap un8))]) [_, _, _, _, .hole, .hole, .hole, _, _, _, _] (fun j => j ≤ n ∧ j ≤ 5) (fun j => n - j) 0 [0, 1, 2, 3, 4, 5, 6, 7, 8, 9, 10] (⟨by omega, by omega⟩) rfl ⟨rfl, rfl, rfl, rfl, rfl, rfl, trivial⟩ ⟨rfl, trivial⟩ ⟨rfl, rfl, rfl, rfl, rfl, rfl, rfl, rfl, rfl, rfl, rfl, trivial⟩ ?_
  intro j hx
  simp only [upd, List.set_cons_zero, List.set_cons_succ, List.cons_append, List.nil_append]
  obtain ⟨hj, hj5⟩ := hx
  have hlj := spJ_len (mask <<< bit) l f j
  have hcj := cJ_le (mask <<< bit) f j
  refine dwp_seq ?_
  refine dwp_region ?_
  refine walk_r rfl rfl rfl (op_lss rfl (ev1 rfl) (ev1 rfl)) ?_
  refine walk_nil ?_
  refine dwp_seq ?_
  refine dwp_cond rfl (fun c2 => ?_) (fun c2 => ?_)
  · try simp only [decide_eq_true_eq, decide_eq_false_iff_not, beq_iff_eq, bne_iff_ne, beq_eq_false_iff_ne, bne_eq_false_iff_eq, Bool.not_eq_true', Bool.not_eq_false', Bool.and_eq_true, Bool.or_eq_true, Bool.or_eq_false_iff, ne_eq, Decidable.not_not, Int.not_lt, Int.not_le] at c2
    refine dwp_skip ?_
    refine dwp_seq ?_
    refine dwp_block ?_
    refine dwp_seq ?_
    refine dwp_region ?_
    refine walk_r rfl rfl rfl (op_ixo (j) rfl sl36 (ev1 rfl) (ev1 rfl) (fun _ => rfl) (fun _ => by omega)) ?_
    refine walk_r rfl rfl rfl (op_lda1 rfl tb5 (ev1 rfl) rfl (fun _ => rfl) (by omega) rfl) ?_
    refine walk_r rfl rfl rfl (op_move (.inr rfl) (ev1 rfl)) ?_
    refine walk_nil ?_
    refine dwp_seq ?_
    by_cases hw : j = 5
    · have hxv : (spJ (mask <<< bit) l f j)[f + j] < 256 := by
        rw [spJ_here (show f + j < (spJ (mask <<< bit) l f j).length by omega), List.getD_eq_getElem?_getD, List.getElem?_eq_getElem (show f + j < l.length by omega)]
        exact hl2 _ (List.getElem_mem _)
      refine dwp_region ?_
      refine walk_r rfl rfl rfl (op_move (.inl rfl) (ev1 rfl)) ?_
      refine walk_r rfl rfl rfl (op_move (.inl rfl) (ev1 rfl)) ?_
      refine walk_w rfl rfl rfl (op_y (i := 0) [0, 1, 2, 3, 4, 5, 6, 7, 8] [] [] rfl (ev1 rfl) (ec (ev1 rfl) en) rfl rfl rfl (tuRound_stop mask bit f _ (f + j) _ l.length (spJ (mask <<< bit) l f j) hm hb (by omega) (by omega) (by omega) hxv (by omega) (by omega) (by omega)) rfl rfl rfl rfl rfl) (by simp only [upd, List.set_cons_zero, List.set_cons_succ]; exact rfl) ?_
      refine walk_r rfl rfl rfl (op_not rfl (ev1 rfl)) ?_
      refine walk_nil ?_
      refine dwp_if_t rfl (rfl) ?_
      refine dwp_ret ?_
      have e1 : decide (n ≤ 5) = false := decide_eq_false (by omega)
      obtain rfl : j = 5 := hw
      rw [e1, show min n 5 = 5 by omega]
      refine kend [0, 1, 2, 3, 4, 5, 6, 7, 8, 9, 10] (res_none rfl) rfl rfl ?_ ⟨rfl, rfl, rfl, rfl, rfl, rfl, rfl, rfl, rfl, rfl, rfl, trivial⟩
      rfl
    · have hxv : (spJ (mask <<< bit) l f j)[f + j] < 256 := by
        rw [spJ_here (show f + j < (spJ (mask <<< bit) l f j).length by omega), List.getD_eq_getElem?_getD, List.getElem?_eq_getElem (show f + j < l.length by omega)]
        exact hl2 _ (List.getElem_mem _)
      refine dwp_region ?_
      refine walk_r rfl rfl rfl (op_move (.inl rfl) (ev1 rfl)) ?_
      refine walk_r rfl rfl rfl (op_move (.inl rfl) (ev1 rfl)) ?_
      refine walk_w rfl rfl rfl (op_y (i := 0) [0, 1, 2, 3, 4, 5, 6, 7, 8] [] [] rfl (ev1 rfl) (ec (ev1 rfl) en) rfl rfl rfl (tuRound_go mask bit f _ (f + j) _ l.length (spJ (mask <<< bit) l f j) hm hb (by omega) (by omega) (by omega) hxv (by omega) (by omega) (by omega)) rfl rfl rfl rfl rfl) (by simp only [upd, List.set_cons_zero, List.set_cons_succ]; exact rfl) ?_
      refine walk_r rfl rfl rfl (op_not rfl (ev1 rfl)) ?_
      refine walk_nil ?_
      refine dwp_if_f rfl (rfl) ?_
      refine dwp_skip ?_
      refine dwp_region ?_
      refine walk_r rfl rfl rfl (op_add' rfl (ev1 rfl) (ev1 rfl) (fun _ => IntWalk.i64_in _ (by omega))) ?_
      refine walk_r rfl rfl rfl (op_move (.inl rfl) (ev1 rfl)) ?_
      refine walk_nil ?_
      refine ⟨j + 1, [0, 1, 2, 3, 4, 5, 6, 7, 8, 9, 10], ⟨by omega, by omega⟩, by simp only []; omega, rfl, ⟨rfl, rfl, rfl, rfl, rfl, rfl, rfl, trivial⟩, ⟨rfl, rfl, rfl, rfl, by rw [cJ]; rfl, rfl, by rw [spJ, ← spJ_here (show f + j < (spJ (mask <<< bit) l f j).length by omega)]; rfl, rfl, rfl, rfl, rfl, trivial⟩⟩
  · try simp only [decide_eq_true_eq, decide_eq_false_iff_not, beq_iff_eq, bne_iff_ne, beq_eq_false_iff_ne, bne_eq_false_iff_eq, Bool.not_eq_true', Bool.not_eq_false', Bool.and_eq_true, Bool.or_eq_true, Bool.or_eq_false_iff, ne_eq, Decidable.not_not, Int.not_lt, Int.not_le] at c2
    refine dwp_exit ?_
    refine dwp_region ?_
    refine walk_r rfl rfl rfl (op_add' rfl (ev1 rfl) (ev1 rfl) (fun _ => IntWalk.i64_in _ (by omega))) ?_
    refine walk_r rfl rfl rfl (op_move (.inl rfl) (ev1 rfl)) ?_
    refine walk_nil ?_
    refine dloop_step ?_
    refine dwp_seq ?_
    refine dwp_region ?_
    refine walk_r rfl rfl rfl (op_lss rfl (ev1 rfl) (ev1 rfl)) ?_
    refine walk_nil ?_
    refine dwp_seq ?_
    refine dwp_if_f rfl (rfl) ?_
    refine dwp_exit ?_
    have e1 : decide (n ≤ 5) = true := decide_eq_true (by omega)
    rw [e1, show min n 5 = j by omega]
    refine kend [0, 1, 2, 3, 4, 5, 6, 7, 8, 9, 10] (res_none rfl) rfl rfl ?_ ⟨rfl, rfl, rfl, rfl, rfl, rfl, rfl, rfl, rfl, rfl, rfl, trivial⟩
    rfl

set_option maxRecDepth 4000 in
set_option maxHeartbeats 1000000 in
theorem turn_d (mask bit f : Nat) (l : List Nat) (hm : mask < 2 ^ 32) (hb : bit ≤ 4611686018427387904) (hl : l.length ≤ 1000000000) (hf : f ≤ l.length) (hl2 : isN l) : DFun Try.prog 79 [.arr 0, .val (.int .i64 (f : Int)), .fn (.func 80) [] [.loc 1 0, .loc 2 0]] [.arr 5 1 l.length ((l).flatMap un8), .flat 3 [.int .i64 (bit : Int)], .flat 47 [.int .u32 (mask : Int)]] (.val (.int .i64 ((cJ (mask <<< bit) f (min (l.length - f) 5) : Nat) : Int))) [.arr 5 1 l.length (((spJ (mask <<< bit) l f (min (l.length - f) 5))).flatMap un8), .flat 3 [.int .i64 (bit : Int)], .flat 47 [.int .u32 (mask : Int)]] := by
  refine dcalls_go (N := 45) 3 (by kernel_rfl) Try.func79 rfl rfl rfl (by simp only [fr0, Nat.zero_add, Nat.reduceAdd]; exact rfl) rfl fun s0 hs0 => ?_
  refine dwp_lena (i := 0) rfl fun hl0 hL0 => ?_
  refine dwp_seq ?_
  refine dwp_holes 3 (by simp only [holes, List.cons_append, List.nil_append]; exact rfl) ?_
  refine dwp_region ?_
  refine walk_w rfl rfl rfl (op_boxm 3 rfl (ev1 rfl) (fun s v h => by cases h <;> rfl) rfl) (by simp only [upd, List.set_cons_zero, List.set_cons_succ]; exact rfl) ?_
  refine walk_w rfl rfl rfl (op_boxi 4 rfl (ev1 rfl) rfl) (by simp only [upd, List.set_cons_zero, List.set_cons_succ]; exact rfl) ?_
  refine walk_w rfl rfl rfl (op_boxm 5 rfl (ev1 rfl) (fun s v h => by cases h <;> rfl) rfl) (by simp only [upd, List.set_cons_zero, List.set_cons_succ]; exact rfl) ?_
  refine walk_r rfl rfl rfl (op_move (.inr rfl) (ev1 rfl)) ?_
  refine walk_nil ?_
  refine dwp_scope ?_
  refine dwp_seq ?_
  refine dwp_holes 2 (by simp only [holes, List.cons_append, List.nil_append]; exact rfl) ?_
  refine dwp_draw [([4], []), ([6], [6]), ([7], [7]), ([6], [6]), ([7], [7])] mixed (by kernel_rfl) ?_
  refine lex_r rfl rfl (op_ldo rfl tb3 (ev1 rfl) rfl rfl) ?_
  refine lex_w rfl rfl (op_alloc 6 rfl zr3 rfl) rfl (by simp only [upd, List.set_cons_zero, List.set_cons_succ]; exact rfl) ?_
  refine lex_w rfl rfl (op_alloc 7 rfl zr3 rfl) rfl (by simp only [upd, List.set_cons_zero, List.set_cons_succ]; exact rfl) ?_
  refine lex_s rfl rfl (op_stwi rfl tb3 (ev1 rfl) (ev1 rfl) rfl) rfl (by simp only [upd, List.set_cons_zero, List.set_cons_succ]; exact rfl) ?_
  refine lex_s rfl rfl (op_stwi rfl tb3 (ev1 rfl) (ev1 rfl) rfl) rfl (by simp only [upd, List.set_cons_zero, List.set_cons_succ]; exact rfl) ?_
  refine lex_nil ?_
  refine dwp_seq ?_
  refine dwp_label ?_
  refine dwp_seq ?_
  refine dwp_seq ?_
  refine dwp_holes 2 (by simp only [holes, List.cons_append, List.nil_append]; exact rfl) ?_
  refine dwp_region ?_
  refine walk_r rfl rfl rfl (op_ldm rfl tb36 (ev1 rfl) rfl rfl) ?_
  refine walk_r rfl rfl rfl (op_ldo rfl tb3 (ev1 rfl) rfl rfl) ?_
  refine walk_r rfl rfl rfl (op_sla rfl sl36 (ev1 rfl) rfl (bd_some (ev1 rfl)) bd_none (fun _ => by omega)) ?_
  refine walk_w rfl rfl rfl (op_bsx (ps := [(0, .tmp 14)]) 8 (fun s d v hd hr => by simp only [List.mem_cons, List.not_mem_nil, or_false] at hd; subst hd <;> first | exact rep_own_cells hr | (cases hr <;> rfl)) rfl sl61 zr36 rfl (ec (ev1 rfl) en) (by decide) rfl) (by simp only [upd, List.set_cons_zero, List.set_cons_succ]; exact rfl) ?_
  refine walk_w rfl rfl rfl (dop_call [8, 0] [] [9] rfl (ev1 rfl) (ec (ev1 rfl) en) rfl (by exact mfits _ _ ⟨(by first | exact rfl | exact arx_fits rfl rfl (vwL_flat (fun _ => rfl) _) | exact arxg_fits rfl rfl (fun _ => rfl) | exact arxs_fits rfl rfl (fun _ => rfl) | exact arxr_fits rfl rfl (nlL_flatR (fun _ => rfl) _)), rfl, trivial⟩) (told_x l.length f (l.length - f) l) rfl rfl rfl (by exact (wrc (by first | exact rfl | exact sb_arx (fun _ => rfl) | exact sb_arxg (fun _ => rfl) | exact sb_arxs (fun _ => rfl) | exact sb_arxr (nlL_flatR (fun _ => rfl) _)) (wrc rfl (wrc rfl rfl)))) rfl rfl) (by simp only [upd, List.set_cons_zero, List.set_cons_succ]; exact rfl) ?_
  refine walk_nil ?_
  refine dwp_block ?_
  refine dwp_hole ?_
  simp only [List.cons_append, List.nil_append]
  refine dwp_rf (FL := [(3, _), (4, _), (5, _), (7, _), (8, _)]) (st := (rst (decide (l.length - f ≤ 5)))) (pe := (rpe (.exit 0) (decide (l.length - f ≤ 5)))) [10, 3, 4, 5, 6, 7, 0, 1, 2, 9, 8] [] [] 10 rfl rfl (ev1 rfl) rfl (subF_lk ⟨rfl, rfl, rfl, rfl, rfl, trivial⟩) rfl rfl rfl (told_turn mask bit f (l.length - f) l hm hb hl (by omega) hl2) rfl rfl rfl rfl rfl rfl rfl (rst_busy _) (fun e => ?_) (fun c e => ?_)
  · simp only [upd, List.set_cons_zero, List.set_cons_succ]
    refine dwp_seq ?_
    refine dwp_region ?_
    refine walk_r rfl rfl rfl (op_ldo rfl tb3 (ev1 rfl) rfl rfl) ?_
    refine walk_r rfl rfl rfl (op_move (.inr rfl) (ev1 rfl)) ?_
    refine walk_nil ?_
    refine dwp_ret ?_
    refine kend [0, 1, 2] (rs1 rfl (rv_t rfl)) rfl rfl ?_ ⟨rfl, rfl, rfl, trivial⟩
    rfl
  · obtain ⟨e1, rfl⟩ : decide (l.length - f ≤ 5) = false ∧ c = .exit 0 := by
      generalize decide (l.length - f ≤ 5) = z at e ⊢
      cases z
      · exact ⟨rfl, (Option.some.inj e).symm⟩
      · cases e
    simp only [upd, List.set_cons_zero, List.set_cons_succ]
    refine dwp_exit ?_
    refine dwp_seq ?_
    refine dwp_region ?_
    refine walk_r rfl rfl rfl (op_ldo rfl tb3 (ev1 rfl) rfl rfl) ?_
    refine walk_r rfl rfl rfl (op_move (.inr rfl) (ev1 rfl)) ?_
    refine walk_nil ?_
    refine dwp_ret ?_
    refine kend [0, 1, 2] (rs1 rfl (rv_t rfl)) rfl rfl ?_ ⟨rfl, rfl, rfl, trivial⟩
    rfl

set_option maxRecDepth 4000 in
set_option maxHeartbeats 1000000 in
theorem spoil_out (l : List Nat) (bit : Int) (mask : Nat) (hbm : bit ≤ 9223372036854775807) (h : bit < 0 ∨ 8 * (l.length : Int) ≤ bit) : DFun Try.prog 75 [.slf 1 (l).length ((l).flatMap un8), .val (.int .i64 (bit : Int)), .val (.int .u32 (mask : Int))] [] (.tup [.val (.slice none 0 0), .val (.int .i64 2)]) [] := by
  refine dcalls_go (N := 33) 0 (by kernel_rfl) Try.func75 rfl rfl rfl (by simp only [fr0, Nat.zero_add, Nat.reduceAdd]; exact rfl) rfl fun s0 hs0 => ?_
  refine dwp_len (t := 0) rfl fun hl0 hL0 => ?_
  refine dwp_seq ?_
  refine dwp_holes 2 (by simp only [holes, List.cons_append, List.nil_append]; exact rfl) ?_
  refine dwp_region ?_
  refine walk_w rfl rfl rfl (op_boxi 0 rfl (ev1 rfl) rfl) (by simp only [upd, List.set_cons_zero, List.set_cons_succ]; exact rfl) ?_
  refine walk_w rfl rfl rfl (op_boxi 1 rfl (ev1 rfl) rfl) (by simp only [upd, List.set_cons_zero, List.set_cons_succ]; exact rfl) ?_
  refine walk_r rfl rfl rfl (op_move (.inr rfl) (ev1 rfl)) ?_
  refine walk_r rfl rfl rfl (op_move (.inr rfl) (ev1 rfl)) ?_
  refine walk_nil ?_
  refine dwp_seq ?_
  refine dwp_seq ?_
  refine dwp_region ?_
  refine walk_r rfl rfl rfl (op_ldo rfl tb3 (ev1 rfl) rfl rfl) ?_
  refine walk_r rfl rfl rfl (op_lss rfl (ev1 rfl) (ev1 rfl)) ?_
  refine walk_r rfl rfl rfl (op_move (.inl rfl) (ev1 rfl)) ?_
  refine walk_gr (gd_f rfl rfl rfl) rfl rfl rfl (op_ldo rfl tb3 (ev1 rfl) rfl rfl) ?_
  refine walk_gr (gd_f rfl rfl rfl) rfl rfl rfl (op_quo' rfl (ev2 rfl) (ev1 rfl) (fun hp => ⟨by omega, by simp at hp; omega, IntWalk.i64_in _ (by simp at hp; omega)⟩)) ?_
  refine walk_gr (gd_f rfl rfl rfl) rfl rfl rfl (op_move (.inl rfl) (ev1 rfl)) ?_
  refine walk_gr (gd_f rfl rfl rfl) rfl rfl rfl (op_len rfl sl36 (ev2 rfl)) ?_
  refine walk_gr (gd_f rfl rfl rfl) rfl rfl rfl (op_geq rfl (ev2 rfl) (ev2 rfl)) ?_
  refine walk_r rfl rfl rfl (op_or rfl (ev1 rfl) (ev3 rfl id)) ?_
  refine walk_nil ?_
  refine dwp_if_t rfl (by simp; omega) ?_
  refine dwp_seq ?_
  refine dwp_region ?_
  refine walk_r rfl rfl rfl (op_move (.inr rfl) (ev1 rfl)) ?_
  refine walk_r rfl rfl rfl (op_move (.inr rfl) (ev1 rfl)) ?_
  refine walk_nil ?_
  refine dwp_ret ?_
  refine kend0 (rs2 rfl (rv_t rfl) (rv_t rfl)) rfl ?_
  rfl

theorem spoil_cnt {l : List Nat} {bit mask : Nat} (hm : mask < 2 ^ 32) (hb : bit < 8 * l.length) : cJ (mask <<< bit) (bit / 8) (min (l.length - bit / 8) 5) = 0 ↔ ∀ k, k < l.length → ((mask <<< bit) >>> (8 * k)) % 256 = 0 := cJ_spl hm (by omega)
theorem spoil_row {l : List Nat} {bit mask : Nat} (hm : mask < 2 ^ 32) (hb : bit < 8 * l.length) : spJ (mask <<< bit) l (bit / 8) (min (l.length - bit / 8) 5) = spl (mask <<< bit) l := spJ_spl hm l (by omega)

set_option maxRecDepth 4000 in
set_option maxHeartbeats 1000000 in
theorem spoil_no (l : List Nat) (bit mask : Nat) (hm : mask < 2 ^ 32) (hb : bit < 8 * l.length) (hl : l.length ≤ 1000000) (hl2 : isN l) (h0 : ∀ k, k < l.length → ((mask <<< bit) >>> (8 * k)) % 256 = 0) : DFun Try.prog 75 [.slf 1 (l).length ((l).flatMap un8), .val (.int .i64 (bit : Int)), .val (.int .u32 (mask : Int))] [] (.tup [.val (.slice none 0 0), .val (.int .i64 2)]) [] := by
  refine dcalls_go (N := 33) 0 (by kernel_rfl) Try.func75 rfl rfl rfl (by simp only [fr0, Nat.zero_add, Nat.reduceAdd]; exact rfl) rfl fun s0 hs0 => ?_
  refine dwp_len (t := 0) rfl fun hl0 hL0 => ?_
  refine dwp_seq ?_
  refine dwp_holes 2 (by simp only [holes, List.cons_append, List.nil_append]; exact rfl) ?_
  refine dwp_region ?_
  refine walk_w rfl rfl rfl (op_boxi 0 rfl (ev1 rfl) rfl) (by simp only [upd, List.set_cons_zero, List.set_cons_succ]; exact rfl) ?_
  refine walk_w rfl rfl rfl (op_boxi 1 rfl (ev1 rfl) rfl) (by simp only [upd, List.set_cons_zero, List.set_cons_succ]; exact rfl) ?_
  refine walk_r rfl rfl rfl (op_move (.inr rfl) (ev1 rfl)) ?_
  refine walk_r rfl rfl rfl (op_move (.inr rfl) (ev1 rfl)) ?_
  refine walk_nil ?_
  refine dwp_seq ?_
  refine dwp_seq ?_
  refine dwp_region ?_
  refine walk_r rfl rfl rfl (op_ldo rfl tb3 (ev1 rfl) rfl rfl) ?_
  refine walk_r rfl rfl rfl (op_lss rfl (ev1 rfl) (ev1 rfl)) ?_
  refine walk_r rfl rfl rfl (op_move (.inl rfl) (ev1 rfl)) ?_
  refine walk_gr (gd_f rfl rfl rfl) rfl rfl rfl (op_ldo rfl tb3 (ev1 rfl) rfl rfl) ?_
  refine walk_gr (gd_f rfl rfl rfl) rfl rfl rfl (op_quo' rfl (ev2 rfl) (ev1 rfl) (fun hp => ⟨by omega, by omega, IntWalk.i64_in _ (by omega)⟩)) ?_
  refine walk_gr (gd_f rfl rfl rfl) rfl rfl rfl (op_move (.inl rfl) (ev1 rfl)) ?_
  refine walk_gr (gd_f rfl rfl rfl) rfl rfl rfl (op_len rfl sl36 (ev2 rfl)) ?_
  refine walk_gr (gd_f rfl rfl rfl) rfl rfl rfl (op_geq rfl (ev2 rfl) (ev2 rfl)) ?_
  refine walk_r rfl rfl rfl (op_or rfl (ev1 rfl) (ev3 rfl id)) ?_
  refine walk_nil ?_
  refine dwp_if_f rfl (by simp; omega) ?_
  refine dwp_skip ?_
  refine dwp_seq ?_
  refine dwp_holes 1 (by simp only [holes, List.cons_append, List.nil_append]; exact rfl) ?_
  refine dwp_region ?_
  refine walk_r rfl rfl rfl (op_move (.inl rfl) (ev1 rfl)) ?_
  refine walk_r rfl rfl rfl (op_len rfl sl36 (ev1 rfl)) ?_
  refine walk_w rfl rfl rfl (op_mks 2 (l.length) (.int .u8 0) rfl sl36 zr5 (ev1 rfl) (ev1 rfl) (fun _ => by omega) (fun _ => by omega) rfl (fun _ => by omega)) (by simp only [upd, List.set_cons_zero, List.set_cons_succ]; exact rfl) ?_
  refine walk_r rfl rfl rfl (op_move (.inr rfl) (ev1 rfl)) ?_
  refine walk_nil ?_
  refine dwp_seq ?_
  refine dwp_region ?_
  refine walk_r rfl rfl rfl (op_move (.inl rfl) (ev1 rfl)) ?_
  refine walk_r rfl rfl rfl (op_move (.inl rfl) (ev1 rfl)) ?_
  refine walk_w rfl rfl rfl (op_cpa rfl sl36 (ev1 rfl) (ev1 rfl) src_slf rfl (fun _ => flat_oc (fun _ => rfl) _)) (by simp only [upd, List.set_cons_zero, List.set_cons_succ]; exact rfl) ?_
  refine walk_nil ?_
  refine dwp_seq ?_
  have hcp : setL (List.replicate l.length (Value.int .u8 0)) 0 ((l.flatMap un8).take (min l.length l.length)) = l.flatMap un8 := (by rw [List.take_of_length_le (by rw [fln]; omega)]; exact setL_all (by rw [List.length_replicate, fln]))
  rw [hcp]
  refine dwp_region ?_
  refine walk_r rfl rfl rfl (op_move (.inl rfl) (ev1 rfl)) ?_
  refine walk_r rfl rfl rfl (op_ldo rfl tb3 (ev1 rfl) rfl rfl) ?_
  refine walk_r rfl rfl rfl (op_quo' rfl (ev1 rfl) (ev1 rfl) (fun _ => ⟨by omega, by omega, IntWalk.i64_in _ (by omega)⟩)) ?_
  refine walk_r rfl rfl rfl (op_mkf rfl en (ec (ev1 rfl) (ec (ev1 rfl) en))) ?_
  refine walk_w rfl rfl rfl (dop_call [2, 0, 1] [] [] rfl (ev1 rfl) (ec (ev1 rfl) (ec (ev1 rfl) (ec (ev1 rfl) en))) rfl rfl (turn_d mask bit (bit / 8) l hm (by omega) (by omega) (by omega) hl2) rfl rfl rfl rfl rfl rfl) (by simp only [upd, List.set_cons_zero, List.set_cons_succ]; exact rfl) ?_
  refine walk_r rfl rfl rfl (op_move (.inr rfl) (ev1 rfl)) ?_
  refine walk_nil ?_
  refine dwp_seq ?_
  refine dwp_seq ?_
  refine dwp_region ?_
  refine walk_r rfl rfl rfl (op_move (.inl rfl) (ev1 rfl)) ?_
  refine walk_r rfl rfl rfl (op_eql rfl (ev1 rfl) (ev1 rfl)) ?_
  refine walk_nil ?_
  refine dwp_if_t rfl (by rw [(spoil_cnt hm hb).2 h0]; rfl) ?_
  refine dwp_seq ?_
  refine dwp_region ?_
  refine walk_r rfl rfl rfl (op_move (.inr rfl) (ev1 rfl)) ?_
  refine walk_r rfl rfl rfl (op_move (.inr rfl) (ev1 rfl)) ?_
  refine walk_nil ?_
  refine dwp_ret ?_
  refine kend0 (rs2 rfl (rv_t rfl) (rv_t rfl)) rfl ?_
  rfl

set_option maxRecDepth 4000 in
set_option maxHeartbeats 1000000 in
theorem spoil_o (l : List Nat) (bit mask : Nat) (hm : mask < 2 ^ 32) (hb : bit < 8 * l.length) (hl : l.length ≤ 1000000) (hl2 : isN l) (h0 : ¬ ∀ k, k < l.length → ((mask <<< bit) >>> (8 * k)) % 256 = 0) : DFun Try.prog 75 [.slf 1 (l).length ((l).flatMap un8), .val (.int .i64 (bit : Int)), .val (.int .u32 (mask : Int))] [] (.tup [.arr 0, .val (.int .i64 0)]) [.arr 5 1 l.length (((spl (mask <<< bit) l)).flatMap un8)] := by
  refine dcalls_go (N := 33) 0 (by kernel_rfl) Try.func75 rfl rfl rfl (by simp only [fr0, Nat.zero_add, Nat.reduceAdd]; exact rfl) rfl fun s0 hs0 => ?_
  refine dwp_len (t := 0) rfl fun hl0 hL0 => ?_
  refine dwp_seq ?_
  refine dwp_holes 2 (by simp only [holes, List.cons_append, List.nil_append]; exact rfl) ?_
  refine dwp_region ?_
  refine walk_w rfl rfl rfl (op_boxi 0 rfl (ev1 rfl) rfl) (by simp only [upd, List.set_cons_zero, List.set_cons_succ]; exact rfl) ?_
  refine walk_w rfl rfl rfl (op_boxi 1 rfl (ev1 rfl) rfl) (by simp only [upd, List.set_cons_zero, List.set_cons_succ]; exact rfl) ?_
  refine walk_r rfl rfl rfl (op_move (.inr rfl) (ev1 rfl)) ?_
  refine walk_r rfl rfl rfl (op_move (.inr rfl) (ev1 rfl)) ?_
  refine walk_nil ?_
  refine dwp_seq ?_
  refine dwp_seq ?_
  refine dwp_region ?_
  refine walk_r rfl rfl rfl (op_ldo rfl tb3 (ev1 rfl) rfl rfl) ?_
  refine walk_r rfl rfl rfl (op_lss rfl (ev1 rfl) (ev1 rfl)) ?_
  refine walk_r rfl rfl rfl (op_move (.inl rfl) (ev1 rfl)) ?_
  refine walk_gr (gd_f rfl rfl rfl) rfl rfl rfl (op_ldo rfl tb3 (ev1 rfl) rfl rfl) ?_
  refine walk_gr (gd_f rfl rfl rfl) rfl rfl rfl (op_quo' rfl (ev2 rfl) (ev1 rfl) (fun hp => ⟨by omega, by omega, IntWalk.i64_in _ (by omega)⟩)) ?_
  refine walk_gr (gd_f rfl rfl rfl) rfl rfl rfl (op_move (.inl rfl) (ev1 rfl)) ?_
  refine walk_gr (gd_f rfl rfl rfl) rfl rfl rfl (op_len rfl sl36 (ev2 rfl)) ?_
  refine walk_gr (gd_f rfl rfl rfl) rfl rfl rfl (op_geq rfl (ev2 rfl) (ev2 rfl)) ?_
  refine walk_r rfl rfl rfl (op_or rfl (ev1 rfl) (ev3 rfl id)) ?_
  refine walk_nil ?_
  refine dwp_if_f rfl (by simp; omega) ?_
  refine dwp_skip ?_
  refine dwp_seq ?_
  refine dwp_holes 1 (by simp only [holes, List.cons_append, List.nil_append]; exact rfl) ?_
  refine dwp_region ?_
  refine walk_r rfl rfl rfl (op_move (.inl rfl) (ev1 rfl)) ?_
  refine walk_r rfl rfl rfl (op_len rfl sl36 (ev1 rfl)) ?_
  refine walk_w rfl rfl rfl (op_mks 2 (l.length) (.int .u8 0) rfl sl36 zr5 (ev1 rfl) (ev1 rfl) (fun _ => by omega) (fun _ => by omega) rfl (fun _ => by omega)) (by simp only [upd, List.set_cons_zero, List.set_cons_succ]; exact rfl) ?_
  refine walk_r rfl rfl rfl (op_move (.inr rfl) (ev1 rfl)) ?_
  refine walk_nil ?_
  refine dwp_seq ?_
  refine dwp_region ?_
  refine walk_r rfl rfl rfl (op_move (.inl rfl) (ev1 rfl)) ?_
  refine walk_r rfl rfl rfl (op_move (.inl rfl) (ev1 rfl)) ?_
  refine walk_w rfl rfl rfl (op_cpa rfl sl36 (ev1 rfl) (ev1 rfl) src_slf rfl (fun _ => flat_oc (fun _ => rfl) _)) (by simp only [upd, List.set_cons_zero, List.set_cons_succ]; exact rfl) ?_
  refine walk_nil ?_
  refine dwp_seq ?_
  have hcp : setL (List.replicate l.length (Value.int .u8 0)) 0 ((l.flatMap un8).take (min l.length l.length)) = l.flatMap un8 := (by rw [List.take_of_length_le (by rw [fln]; omega)]; exact setL_all (by rw [List.length_replicate, fln]))
  rw [hcp]
  refine dwp_region ?_
  refine walk_r rfl rfl rfl (op_move (.inl rfl) (ev1 rfl)) ?_
  refine walk_r rfl rfl rfl (op_ldo rfl tb3 (ev1 rfl) rfl rfl) ?_
  refine walk_r rfl rfl rfl (op_quo' rfl (ev1 rfl) (ev1 rfl) (fun _ => ⟨by omega, by omega, IntWalk.i64_in _ (by omega)⟩)) ?_
  refine walk_r rfl rfl rfl (op_mkf rfl en (ec (ev1 rfl) (ec (ev1 rfl) en))) ?_
  refine walk_w rfl rfl rfl (dop_call [2, 0, 1] [] [] rfl (ev1 rfl) (ec (ev1 rfl) (ec (ev1 rfl) (ec (ev1 rfl) en))) rfl rfl (turn_d mask bit (bit / 8) l hm (by omega) (by omega) (by omega) hl2) rfl rfl rfl rfl rfl rfl) (by simp only [upd, List.set_cons_zero, List.set_cons_succ]; exact rfl) ?_
  refine walk_r rfl rfl rfl (op_move (.inr rfl) (ev1 rfl)) ?_
  refine walk_nil ?_
  refine dwp_seq ?_
  refine dwp_seq ?_
  refine dwp_region ?_
  refine walk_r rfl rfl rfl (op_move (.inl rfl) (ev1 rfl)) ?_
  refine walk_r rfl rfl rfl (op_eql rfl (ev1 rfl) (ev1 rfl)) ?_
  refine walk_nil ?_
  refine dwp_if_f rfl (by have := mt (spoil_cnt hm hb).1 h0; simp; omega) ?_
  refine dwp_skip ?_
  refine dwp_seq ?_
  rw [spoil_row hm hb]
  refine dwp_region ?_
  refine walk_r rfl rfl rfl (op_move (.inl rfl) (ev1 rfl)) ?_
  refine walk_r rfl rfl rfl (op_move (.inr rfl) (ev1 rfl)) ?_
  refine walk_r rfl rfl rfl (op_move (.inr rfl) (ev1 rfl)) ?_
  refine walk_nil ?_
  refine dwp_ret ?_
  refine kend [2] (rs2 rfl (rv_t rfl) (rv_t rfl)) rfl rfl ?_ ⟨rfl, trivial⟩
  rfl

def sealC (l : List Nat) : List Nat := l ++ four (moreC 0 l)
theorem four_len (w : Nat) : (four w).length = 4 := rfl
theorem sealC_len (l : List Nat) : (sealC l).length = l.length + 4 := by rw [sealC, List.length_append, four_len]
theorem lay_one {A B : List Value} {z : Value} {p m r : Nat} (hp : p = A.length) (hm : B.length = m) : setL (A ++ List.replicate (m + r) z) p B = A ++ B ++ List.replicate r z := by
  subst hp hm
  rw [setL_eq _ _ _ (by simp), List.take_left, List.drop_append]
  congr 1
  rw [List.drop_of_length_le (by omega), List.nil_append, List.drop_replicate]
  congr 1
  omega
theorem laid_n (l m : List Nat) {z : Value} {N p0 p1 k1 k2 : Nat} (hN : N = l.length + m.length) (h0 : p0 = 0) (h1 : l.length ≤ k1) (h2 : p1 = l.length) (h3 : m.length ≤ k2) : setL (setL (List.replicate N z) p0 ((l.flatMap un8).take k1)) p1 ((m.flatMap un8).take k2) = (l ++ m).flatMap un8 := by
  subst hN
  rw [List.take_of_length_le (by rw [fln]; omega), List.take_of_length_le (by rw [fln]; omega)]
  have e1 := lay_one (A := []) (B := l.flatMap un8) (z := z) (p := p0) (m := l.length) (r := m.length) h0 (fln _)
  rw [List.nil_append, List.nil_append] at e1
  rw [e1]
  have e2 := lay_one (A := l.flatMap un8) (B := m.flatMap un8) (z := z) (p := p1) (m := m.length) (r := 0) (by rw [fln]; exact h2) (fln _)
  rw [Nat.add_zero] at e2
  rw [e2, List.flatMap_append]
  simp
theorem laid_1 (l : List Nat) {z : Value} {N k : Nat} (hN : N = l.length) (h1 : l.length ≤ k) : setL (List.replicate N z) 0 ((l.flatMap un8).take k) = l.flatMap un8 := by
  subst hN
  rw [List.take_of_length_le (by rw [fln]; omega)]
  exact setL_all (by rw [List.length_replicate, fln])
theorem sum1_c (l : List Nat) (hn : isN l) (hl : l.length ≤ 1000000) : DFun Try.prog 56 [.slm 1 1 [rN l]] [] (.val (.int .u32 (moreC 0 l : Nat))) [] := by
  have h := sum_c [l] (by simpa using hn) (by simp) (by simpa using hl)
  rw [List.flatten_singleton] at h
  exact h

set_option maxRecDepth 4000 in
set_option maxHeartbeats 1000000 in
theorem seal_o (l : List Nat) (hn : isN l) (hl : l.length ≤ 1000000) : DFun Try.prog 28 [.slf 1 (l).length ((l).flatMap un8)] [] (.arr 0) [.arr 5 1 (sealC l).length (((sealC l)).flatMap un8)] := by
  refine dcalls_go (N := 21) 0 (by kernel_rfl) Try.func28 rfl rfl rfl (by simp only [fr0, Nat.zero_add, Nat.reduceAdd]; exact rfl) rfl fun s0 hs0 => ?_
  refine dwp_len (t := 0) rfl fun hl0 hL0 => ?_
  refine dwp_seq ?_
  refine dwp_region ?_
  refine walk_r rfl rfl rfl (op_move (.inr rfl) (ev1 rfl)) ?_
  refine walk_nil ?_
  refine dwp_seq ?_
  have hml := more_lt hn (show 0 < 2 ^ 32 by decide)
  refine dwp_holes 1 (by simp only [holes, List.cons_append, List.nil_append]; exact rfl) ?_
  refine dwp_region ?_
  refine walk_r rfl rfl rfl (op_move (.inl rfl) (ev1 rfl)) ?_
  refine walk_r rfl rfl rfl (op_bsm (ps := [(0, .tmp 5)]) rfl sl61 zr36 rfl (ec (ev1 rfl) en) rfl (by decide)) ?_
  refine walk_r rfl rfl rfl (dop_call [] [] [] rfl (ev1 rfl) (ec (ev1 rfl) en) rfl rfl (sum1_c l hn hl) rfl rfl rfl rfl rfl rfl) ?_
  refine walk_r rfl rfl rfl (dop_call [] [] [] rfl (ev1 rfl) (ec (ev1 rfl) en) rfl rfl (low_d (moreC 0 l) hml) rfl rfl rfl rfl rfl rfl) ?_
  refine walk_w rfl rfl rfl (op_alloc 0 rfl zr91 rfl) (by simp only [upd, List.set_cons_zero, List.set_cons_succ]; exact rfl) ?_
  refine walk_s rfl rfl (op_stwa rfl tb91 (ev1 rfl) (ev1 rfl) rfl rfl rfl rfl) (by simp only [upd, List.set_cons_zero, List.set_cons_succ]; exact rfl) ?_
  refine walk_nil ?_
  refine dwp_seq ?_
  refine dwp_holes 1 (by simp only [holes, List.cons_append, List.nil_append]; exact rfl) ?_
  refine dwp_region ?_
  refine walk_r rfl rfl rfl (op_move (.inl rfl) (ev1 rfl)) ?_
  refine walk_r rfl rfl rfl (op_len rfl sl36 (ev1 rfl)) ?_
  refine walk_r rfl rfl rfl (op_add' rfl (ev1 rfl) (ev1 rfl) (fun _ => IntWalk.i64_in _ (by omega))) ?_
  refine walk_w rfl rfl rfl (op_mks 1 (l.length + 4) (.int .u8 0) rfl sl36 zr5 (ev1 rfl) (ev1 rfl) (fun _ => by omega) (fun _ => by omega) rfl (fun _ => by omega)) (by simp only [upd, List.set_cons_zero, List.set_cons_succ]; exact rfl) ?_
  refine walk_r rfl rfl rfl (op_move (.inr rfl) (ev1 rfl)) ?_
  refine walk_nil ?_
  refine dwp_seq ?_
  refine dwp_view ⟨hs0, rfl⟩ [1] [0] [(0, _), (3, _), (4, _)] [_] rfl ⟨rfl, rfl, rfl, trivial⟩ ⟨rfl, trivial⟩ ?_
  refine dwp_draw [([], []), ([], []), ([], []), ([0], [0]), ([0], []), ([], []), ([0], [0])] mixed (by kernel_rfl) ?_
  refine lex_r rfl rfl (op_move (.inl rfl) (ev1 rfl)) ?_
  refine lex_r rfl rfl (op_move (.inl rfl) (ev1 rfl)) ?_
  refine lex_r rfl rfl (op_move (.inl rfl) (ev1 rfl)) ?_
  refine lex_w rfl rfl (op_cpa rfl sl36 (ev1 rfl) (ev1 rfl) src_slf rfl (fun _ => flat_oc (fun _ => rfl) _)) rfl (by simp only [upd, List.set_cons_zero, List.set_cons_succ]; exact rfl) ?_
  refine lex_r rfl rfl (op_sla rfl sl36 (ev1 rfl) rfl (bd_some (ev1 rfl)) bd_none (fun _ => by omega)) ?_
  refine lex_r rfl rfl (op_slad (p := 0) (q := 4) rfl ar91 (ev1 rfl) bd_none bd_none (fun _ => rfl) (fun _ => rfl) (fun _ => by decide) (rfl) (by decide) (fun _ => rfl)) ?_
  refine lex_w rfl rfl (op_cpy rfl sl36 (ev1 rfl) (ev1 rfl) src_slf rfl (fun _ => flat_oc (fun _ => rfl) _)) rfl (by simp only [upd, List.set_cons_zero, List.set_cons_succ]; exact rfl) ?_
  refine lex_nil ?_
  refine dwp_seq ?_
  refine dwp_region ?_
  refine walk_r rfl rfl rfl (op_move (.inl rfl) (ev1 rfl)) ?_
  refine walk_r rfl rfl rfl (op_move (.inr rfl) (ev1 rfl)) ?_
  refine walk_nil ?_
  refine dwp_ret ?_
  refine kend [0] (rs1 rfl (rv_t rfl)) rfl rfl ?_ ⟨?_, trivial⟩
  rfl
  exact arr_eq (by rw [sealC_len]) (laid_n l (four (moreC 0 l)) rfl rfl (by omega) (by omega) (by have e : (List.take (4 - 0) (List.drop 0 (four (moreC 0 l)))).length = 4 := rfl; rw [e, four_len]; omega))

theorem op_off {P : Program} {pc : Bool} {o : Oper} {F : Fr} {M : List Blk} (d : D) (h : ¬ pc = true) : DOp P pc o F M [] d [] := fun hp => absurd hp h
theorem op_s2a {P : Program} {pc : Bool} {o : Oper} {F : Fr} {M : List Blk} {T : TypeId} {x : Operand} {n sz : Nat} {L : List Value} (hn0 : 0 < n) (ho : o.op = .sliceToArrayPointer T x) (hT : arE P T = some (n, 1)) (hx : Ev pc F x (.slf 1 sz L)) (hs : pc = true → n ≤ sz) (hL : pc = true → 0 < L.length) : DOp P pc o F M [] (.dpf L) [] := by
  intro hp a s hok hops _
  obtain ⟨e, i, e1, e2, e3⟩ := arE_spec hT
  have hs := hs hp
  have hL := hL hp
  have hr := ev_at hp hx (by simp [ho, Op.operands]) hops
  generalize hv : a.eval x = vx at hr
  cases hr with
  | @slf _ _ cap ad _ hl hn hc ha hh =>
    rcases hh with rfl | ⟨b, q, rfl, hI, hcl⟩
    · simp at hL
    · refine dg_val hok (v := .pointer (some ⟨b, q, none⟩)) ?_ (.dpf hI hcl)
      unfold execOp
      simp only [ho, hv]
      refine run_v ?_
      unfold Instr.arrayAt
      simp [run_underlying e1, Sem.run_bind, show ¬ sz < n by omega]
theorem eqA_row {α : Type} {f : List Value → List Value → Option Bool} {en : α → List Value} {sz : Nat} [DecidableEq α] (hen : ∀ a, (en a).length = sz) (hf : ∀ a b, f (en a) (en b) = some (decide (a = b))) :
    ∀ (l r : List α), l.length = r.length → eqA f sz l.length (l.flatMap en) (r.flatMap en) = some (decide (l = r))
  | [], [], _ => by simp [eqA]
  | a :: l, b :: r, h => by
    have e1 : ((a :: l).flatMap en).take sz = en a := by rw [List.flatMap_cons, ← hen a, List.take_left]
    have e2 : ((b :: r).flatMap en).take sz = en b := by rw [List.flatMap_cons, ← hen b, List.take_left]
    have e3 : ((a :: l).flatMap en).drop sz = l.flatMap en := by rw [List.flatMap_cons, ← hen a, List.drop_left]
    have e4 : ((b :: r).flatMap en).drop sz = r.flatMap en := by rw [List.flatMap_cons, ← hen b, List.drop_left]
    rw [List.length_cons, eqA, e1, e2, e3, e4, hf, eqA_row hen hf l r (by simpa using h)]
    simp only [Option.some.injEq]
    rw [Bool.eq_iff_iff]
    simp
  | [], _ :: _, h => by simp at h
  | _ :: _, [], h => by simp at h
set_option maxRecDepth 100000 in
theorem eq4 {a b : List Nat} (ha : a.length = 4) (hb : b.length = 4) : eqT Try.prog 9 91 (a.flatMap un8) (b.flatMap un8) = some (decide (a = b)) := by
  have h : ∀ a b : Nat, eqT Try.prog 8 5 (un8 a) (un8 b) = some (decide (a = b)) := fun a b => by
    have h1 : eqT Try.prog 8 5 (un8 a) (un8 b) = some ((a : Int) == (b : Int)) := by kernel_rfl
    rw [h1]
    congr 1
    rw [Bool.eq_iff_iff]
    simp
    omega
  have h2 := eqA_row (en := un8) un8_len h a b (by omega)
  rw [ha] at h2
  rw [← h2]
  have e1 : Try.prog.underlying 91 = some (.array 4 5) := by kernel_rfl
  have e2 : ∃ i, Try.prog.info? 5 = some i ∧ i.size = 1 := ⟨_, rfl, by kernel_rfl⟩
  obtain ⟨i, e3, e4⟩ := e2
  unfold eqT
  simp only [e1, e3, e4]

set_option maxRecDepth 4000 in
set_option maxHeartbeats 1000000 in
theorem open_few (l : List Nat) (h : l.length < 4) : DFun Try.prog 29 [.slf 1 (l).length ((l).flatMap un8)] [] (.tup [.val (.slice none 0 0), .val (.int .i64 120)]) [] := by
  refine dcalls_go (N := 34) 0 (by kernel_rfl) Try.func29 rfl rfl rfl (by simp only [fr0, Nat.zero_add, Nat.reduceAdd]; exact rfl) rfl fun s0 hs0 => ?_
  refine dwp_len (t := 0) rfl fun hl0 hL0 => ?_
  refine dwp_seq ?_
  refine dwp_region ?_
  refine walk_r rfl rfl rfl (op_move (.inr rfl) (ev1 rfl)) ?_
  refine walk_r rfl rfl rfl (op_move (.inr rfl) (ev1 rfl)) ?_
  refine walk_nil ?_
  refine dwp_seq ?_
  refine dwp_region ?_
  refine walk_r rfl rfl rfl (op_move (.inl rfl) (ev1 rfl)) ?_
  refine walk_r rfl rfl rfl (op_len rfl sl36 (ev1 rfl)) ?_
  refine walk_r rfl rfl rfl (op_sub' rfl (ev1 rfl) (ev1 rfl) (fun _ => IntWalk.i64_in _ (by omega))) ?_
  refine walk_r rfl rfl rfl (op_move (.inr rfl) (ev1 rfl)) ?_
  refine walk_nil ?_
  refine dwp_seq ?_
  refine dwp_seq ?_
  refine dwp_draw [([], []), ([], []), ([], []), ([], []), ([], []), ([], []), ([], []), ([], []), ([], []), ([], []), ([], []), ([], []), ([], []), ([], []), ([], []), ([], [])] mixed (by kernel_rfl) ?_
  refine lex_r rfl rfl (op_move (.inl rfl) (ev1 rfl)) ?_
  refine lex_r rfl rfl (op_lss rfl (ev1 rfl) (ev1 rfl)) ?_
  refine lex_r rfl rfl (op_move (.inl rfl) (ev1 rfl)) ?_
  refine lex_gr (gd_f rfl rfl rfl) rfl rfl (op_move (.inl rfl) (ev1 rfl)) ?_
  refine lex_gr (gd_f rfl rfl rfl) rfl rfl (op_move (.inl rfl) (ev1 rfl)) ?_
  refine lex_gr (gd_f rfl rfl rfl) rfl rfl (op_off (.val (.slice none 0 0)) (by simp; omega)) ?_
  refine lex_gr (gd_f rfl rfl rfl) rfl rfl (op_off (.val (.slice none 0 0)) (by simp; omega)) ?_
  refine lex_gr (gd_f rfl rfl rfl) rfl rfl (op_off (.val (.slice none 0 0)) (by simp; omega)) ?_
  refine lex_gr (gd_f rfl rfl rfl) rfl rfl (op_off (.val (.slice none 0 0)) (by simp; omega)) ?_
  refine lex_gr (gd_f rfl rfl rfl) rfl rfl (op_move (.inl rfl) (ev1 rfl)) ?_
  refine lex_gr (gd_f rfl rfl rfl) rfl rfl (op_move (.inl rfl) (ev1 rfl)) ?_
  refine lex_gr (gd_f rfl rfl rfl) rfl rfl (op_off (.val (.slice none 0 0)) (by simp; omega)) ?_
  refine lex_gr (gd_f rfl rfl rfl) rfl rfl (op_off (.val (.slice none 0 0)) (by simp; omega)) ?_
  refine lex_gr (gd_f rfl rfl rfl) rfl rfl (op_off (.val (.slice none 0 0)) (by simp; omega)) ?_
  refine lex_gr (gd_f rfl rfl rfl) rfl rfl (op_off (.val (.bool false)) (by simp; omega)) ?_
  refine lex_r rfl rfl (op_or rfl (ev1 rfl) (ev3 rfl id)) ?_
  refine lex_nil ?_
  refine dwp_if_t rfl (by simp; omega) ?_
  refine dwp_seq ?_
  refine dwp_region ?_
  refine walk_r rfl rfl rfl (op_move (.inr rfl) (ev1 rfl)) ?_
  refine walk_r rfl rfl rfl (op_move (.inr rfl) (ev1 rfl)) ?_
  refine walk_nil ?_
  refine dwp_ret ?_
  refine kend0 (rs2 rfl (rv_t rfl) (rv_t rfl)) rfl ?_
  rfl

set_option maxRecDepth 4000 in
set_option maxHeartbeats 1000000 in
theorem open_no (l : List Nat) (hn : isN l) (hl : l.length ≤ 1000000) (h : 4 ≤ l.length) (hx : ¬ four (moreC 0 (l.take (l.length - 4))) = l.drop (l.length - 4)) : DFun Try.prog 29 [.slf 1 (l).length ((l).flatMap un8)] [] (.tup [.val (.slice none 0 0), .val (.int .i64 120)]) [] := by
  refine dcalls_go (N := 34) 0 (by kernel_rfl) Try.func29 rfl rfl rfl (by simp only [fr0, Nat.zero_add, Nat.reduceAdd]; exact rfl) rfl fun s0 hs0 => ?_
  refine dwp_len (t := 0) rfl fun hl0 hL0 => ?_
  refine dwp_seq ?_
  refine dwp_region ?_
  refine walk_r rfl rfl rfl (op_move (.inr rfl) (ev1 rfl)) ?_
  refine walk_r rfl rfl rfl (op_move (.inr rfl) (ev1 rfl)) ?_
  refine walk_nil ?_
  refine dwp_seq ?_
  refine dwp_region ?_
  refine walk_r rfl rfl rfl (op_move (.inl rfl) (ev1 rfl)) ?_
  refine walk_r rfl rfl rfl (op_len rfl sl36 (ev1 rfl)) ?_
  refine walk_r rfl rfl rfl (op_sub' rfl (ev1 rfl) (ev1 rfl) (fun _ => IntWalk.i64_in _ (by omega))) ?_
  refine walk_r rfl rfl rfl (op_move (.inr rfl) (ev1 rfl)) ?_
  refine walk_nil ?_
  refine dwp_seq ?_
  refine dwp_seq ?_
  have hbn : isN (l.take (l.length - 4)) := fun x hx => hn x (List.mem_of_mem_take hx)
  have hml := more_lt hbn (show 0 < 2 ^ 32 by decide)
  have hdl : (l.drop (l.length - 4)).length = 4 := by rw [List.length_drop]; omega
  refine dwp_draw [([], []), ([], []), ([], []), ([], []), ([], []), ([], []), ([], []), ([], []), ([], []), ([], []), ([], []), ([], []), ([], []), ([], []), ([], []), ([], [])] mixed (by kernel_rfl) ?_
  refine lex_r rfl rfl (op_move (.inl rfl) (ev1 rfl)) ?_
  refine lex_r rfl rfl (op_lss rfl (ev1 rfl) (ev1 rfl)) ?_
  refine lex_r rfl rfl (op_move (.inl rfl) (ev1 rfl)) ?_
  refine lex_gr (gd_f rfl rfl rfl) rfl rfl (op_move (.inl rfl) (ev1 rfl)) ?_
  refine lex_gr (gd_f rfl rfl rfl) rfl rfl (op_move (.inl rfl) (ev1 rfl)) ?_
  refine lex_gr (gd_f rfl rfl rfl) rfl rfl (op_sltk (j := (l.length - 4)) rfl sl36 (ev2 rfl) (bd_some (ev2 rfl)) (fun _ => by omega) (fun _ => by omega) (fun _ => rfl)) ?_
  refine lex_gr (gd_f rfl rfl rfl) rfl rfl (op_bsm (ps := [(0, .tmp 14)]) rfl sl61 zr36 rfl (ec (ev2 rfl) en) rfl (by decide)) ?_
  refine lex_gr (gd_f rfl rfl rfl) rfl rfl (dop_call [] [] [] rfl (ev1 rfl) (ec (ev2 rfl) en) rfl rfl (sum1_c (l.take (l.length - 4)) hbn (by rw [List.length_take]; omega)) rfl rfl rfl rfl rfl rfl) ?_
  refine lex_gr (gd_f rfl rfl rfl) rfl rfl (dop_call [] [] [] rfl (ev1 rfl) (ec (ev2 rfl) en) rfl rfl (low_d _ hml) rfl rfl rfl rfl rfl rfl) ?_
  refine lex_gr (gd_f rfl rfl rfl) rfl rfl (op_move (.inl rfl) (ev1 rfl)) ?_
  refine lex_gr (gd_f rfl rfl rfl) rfl rfl (op_move (.inl rfl) (ev1 rfl)) ?_
  refine lex_gr (gd_f rfl rfl rfl) rfl rfl (op_sldr (i := (l.length - 4)) rfl sl36 (ev2 rfl) (bd_some (ev2 rfl)) (fun _ => by omega) (fun _ => by omega) (fun _ => rfl)) ?_
  refine lex_gr (gd_f rfl rfl rfl) rfl rfl (op_s2a (by decide) rfl ar91 (ev2 rfl) (fun _ => by omega) (fun _ => by rw [fln]; omega)) ?_
  refine lex_gr (gd_f rfl rfl rfl) rfl rfl (op_ldwd rfl tb91 (ev2 rfl) (by rw [fln]; omega)) ?_
  refine lex_gr (gd_f rfl rfl rfl) rfl rfl (op_ner (eq4 rfl hdl) rfl gd91 tb91 (ev2 rfl) (ev2 rfl)) ?_
  refine lex_r rfl rfl (op_or rfl (ev1 rfl) (ev3 rfl id)) ?_
  refine lex_nil ?_
  refine dwp_if_t rfl (by rw [decide_eq_false hx]; simp) ?_
  refine dwp_seq ?_
  refine dwp_region ?_
  refine walk_r rfl rfl rfl (op_move (.inr rfl) (ev1 rfl)) ?_
  refine walk_r rfl rfl rfl (op_move (.inr rfl) (ev1 rfl)) ?_
  refine walk_nil ?_
  refine dwp_ret ?_
  refine kend0 (rs2 rfl (rv_t rfl) (rv_t rfl)) rfl ?_
  rfl

set_option maxRecDepth 4000 in
set_option maxHeartbeats 1000000 in
theorem open_o (l : List Nat) (hn : isN l) (hl : l.length ≤ 1000000) (h : 4 ≤ l.length) (hx : four (moreC 0 (l.take (l.length - 4))) = l.drop (l.length - 4)) : DFun Try.prog 29 [.slf 1 (l).length ((l).flatMap un8)] [] (.tup [.arr 0, .val (.int .i64 0)]) [.arr 5 1 (l.take (l.length - 4)).length (((l.take (l.length - 4))).flatMap un8)] := by
  refine dcalls_go (N := 34) 0 (by kernel_rfl) Try.func29 rfl rfl rfl (by simp only [fr0, Nat.zero_add, Nat.reduceAdd]; exact rfl) rfl fun s0 hs0 => ?_
  refine dwp_len (t := 0) rfl fun hl0 hL0 => ?_
  refine dwp_seq ?_
  refine dwp_region ?_
  refine walk_r rfl rfl rfl (op_move (.inr rfl) (ev1 rfl)) ?_
  refine walk_r rfl rfl rfl (op_move (.inr rfl) (ev1 rfl)) ?_
  refine walk_nil ?_
  refine dwp_seq ?_
  refine dwp_region ?_
  refine walk_r rfl rfl rfl (op_move (.inl rfl) (ev1 rfl)) ?_
  refine walk_r rfl rfl rfl (op_len rfl sl36 (ev1 rfl)) ?_
  refine walk_r rfl rfl rfl (op_sub' rfl (ev1 rfl) (ev1 rfl) (fun _ => IntWalk.i64_in _ (by omega))) ?_
  refine walk_r rfl rfl rfl (op_move (.inr rfl) (ev1 rfl)) ?_
  refine walk_nil ?_
  refine dwp_seq ?_
  refine dwp_seq ?_
  have hbn : isN (l.take (l.length - 4)) := fun x hx => hn x (List.mem_of_mem_take hx)
  have hml := more_lt hbn (show 0 < 2 ^ 32 by decide)
  have hdl : (l.drop (l.length - 4)).length = 4 := by rw [List.length_drop]; omega
  refine dwp_draw [([], []), ([], []), ([], []), ([], []), ([], []), ([], []), ([], []), ([], []), ([], []), ([], []), ([], []), ([], []), ([], []), ([], []), ([], []), ([], [])] mixed (by kernel_rfl) ?_
  refine lex_r rfl rfl (op_move (.inl rfl) (ev1 rfl)) ?_
  refine lex_r rfl rfl (op_lss rfl (ev1 rfl) (ev1 rfl)) ?_
  refine lex_r rfl rfl (op_move (.inl rfl) (ev1 rfl)) ?_
  refine lex_gr (gd_f rfl rfl rfl) rfl rfl (op_move (.inl rfl) (ev1 rfl)) ?_
  refine lex_gr (gd_f rfl rfl rfl) rfl rfl (op_move (.inl rfl) (ev1 rfl)) ?_
  refine lex_gr (gd_f rfl rfl rfl) rfl rfl (op_sltk (j := (l.length - 4)) rfl sl36 (ev2 rfl) (bd_some (ev2 rfl)) (fun _ => by omega) (fun _ => by omega) (fun _ => rfl)) ?_
  refine lex_gr (gd_f rfl rfl rfl) rfl rfl (op_bsm (ps := [(0, .tmp 14)]) rfl sl61 zr36 rfl (ec (ev2 rfl) en) rfl (by decide)) ?_
  refine lex_gr (gd_f rfl rfl rfl) rfl rfl (dop_call [] [] [] rfl (ev1 rfl) (ec (ev2 rfl) en) rfl rfl (sum1_c (l.take (l.length - 4)) hbn (by rw [List.length_take]; omega)) rfl rfl rfl rfl rfl rfl) ?_
  refine lex_gr (gd_f rfl rfl rfl) rfl rfl (dop_call [] [] [] rfl (ev1 rfl) (ec (ev2 rfl) en) rfl rfl (low_d _ hml) rfl rfl rfl rfl rfl rfl) ?_
  refine lex_gr (gd_f rfl rfl rfl) rfl rfl (op_move (.inl rfl) (ev1 rfl)) ?_
  refine lex_gr (gd_f rfl rfl rfl) rfl rfl (op_move (.inl rfl) (ev1 rfl)) ?_
  refine lex_gr (gd_f rfl rfl rfl) rfl rfl (op_sldr (i := (l.length - 4)) rfl sl36 (ev2 rfl) (bd_some (ev2 rfl)) (fun _ => by omega) (fun _ => by omega) (fun _ => rfl)) ?_
  refine lex_gr (gd_f rfl rfl rfl) rfl rfl (op_s2a (by decide) rfl ar91 (ev2 rfl) (fun _ => by omega) (fun _ => by rw [fln]; omega)) ?_
  refine lex_gr (gd_f rfl rfl rfl) rfl rfl (op_ldwd rfl tb91 (ev2 rfl) (by rw [fln]; omega)) ?_
  refine lex_gr (gd_f rfl rfl rfl) rfl rfl (op_ner (eq4 rfl hdl) rfl gd91 tb91 (ev2 rfl) (ev2 rfl)) ?_
  refine lex_r rfl rfl (op_or rfl (ev1 rfl) (ev3 rfl id)) ?_
  refine lex_nil ?_
  refine dwp_if_f rfl (by rw [decide_eq_true hx]; simp; omega) ?_
  refine dwp_skip ?_
  refine dwp_seq ?_
  refine dwp_holes 1 (by simp only [holes, List.cons_append, List.nil_append]; exact rfl) ?_
  refine dwp_region ?_
  refine walk_r rfl rfl rfl (op_move (.inl rfl) (ev1 rfl)) ?_
  refine walk_w rfl rfl rfl (op_mks 0 ((l.length - 4)) (.int .u8 0) rfl sl36 zr5 (ev1 rfl) (ev1 rfl) (fun _ => by omega) (fun _ => by omega) rfl (fun _ => by omega)) (by simp only [upd, List.set_cons_zero, List.set_cons_succ]; exact rfl) ?_
  refine walk_r rfl rfl rfl (op_move (.inr rfl) (ev1 rfl)) ?_
  refine walk_nil ?_
  refine dwp_seq ?_
  refine dwp_region ?_
  refine walk_r rfl rfl rfl (op_move (.inl rfl) (ev1 rfl)) ?_
  refine walk_r rfl rfl rfl (op_move (.inl rfl) (ev1 rfl)) ?_
  refine walk_r rfl rfl rfl (op_move (.inl rfl) (ev1 rfl)) ?_
  refine walk_r rfl rfl rfl (op_move (.inl rfl) (ev1 rfl)) ?_
  refine walk_r rfl rfl rfl (op_sl3f (j := l.length - 4) rfl sl36 (ev1 rfl) (ev1 rfl) (ev1 rfl) (fun hp => by first | omega | (simp at hp; omega)) (fun hp => by first | omega | (simp at hp; omega)) (fun hp => by first | omega | (simp at hp; omega)) (fun _ => rfl)) ?_
  refine walk_w rfl rfl rfl (op_cpa rfl sl36 (ev1 rfl) (ev1 rfl) src_slf rfl (fun _ => flat_oc (fun _ => rfl) _)) (by simp only [upd, List.set_cons_zero, List.set_cons_succ]; exact rfl) ?_
  refine walk_nil ?_
  refine dwp_seq ?_
  refine dwp_region ?_
  refine walk_r rfl rfl rfl (op_move (.inl rfl) (ev1 rfl)) ?_
  refine walk_r rfl rfl rfl (op_move (.inr rfl) (ev1 rfl)) ?_
  refine walk_r rfl rfl rfl (op_move (.inr rfl) (ev1 rfl)) ?_
  refine walk_nil ?_
  refine dwp_ret ?_
  refine kend [0] (rs2 rfl (rv_t rfl) (rv_t rfl)) rfl rfl ?_ ⟨?_, trivial⟩
  rfl
  exact arr_eq (by rw [List.length_take]; omega) (laid_1 _ (by rw [List.length_take]; omega) (by rw [List.length_take]; omega))

end Go.Proofs.Ytgomklemldldiaa
