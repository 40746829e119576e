/- what the document asks: words -/
import Derived.Test.YtgomklemldldiaaKf
namespace Go.Proofs.Ytgomklemldldiaa
set_option linter.unusedVariables false
set_option linter.unusedSimpArgs false
open Go.RowKit

def sr (a k : Nat) : Nat := a >>> k
theorem sr_zero (a : Nat) : sr a 0 = a := rfl
theorem sr_lt {a : Nat} (h : a < 2 ^ 32) (k : Nat) : sr a k < 2 ^ 32 := by rw [sr, Nat.shiftRight_eq_div_pow]; exact Nat.lt_of_le_of_lt (Nat.div_le_self _ _) h
theorem shr_succ (a k : Nat) : ((sr a k : Nat) : Int) / 2 = ((sr a (k + 1) : Nat) : Int) := by
  have : sr a (k + 1) = sr a k / 2 := Nat.shiftRight_succ _ _
  omega
theorem bit_xor (a b k : Nat) : sr (a ^^^ b) k % 2 = (sr a k % 2 + sr b k % 2) % 2 := by
  unfold sr
  rw [Nat.shiftRight_xor_distrib, mod2_xor]
theorem modp_succ (x k : Nat) : x % 2 ^ (k + 1) = x % 2 ^ k + 2 ^ k * (sr x k % 2) := by
  rw [Nat.mod_pow_succ, sr, Nat.shiftRight_eq_div_pow]
theorem pow_u32 {k : Nat} (h : k < 32) : (2 ^ k : Nat) < 4294967296 := Nat.lt_of_le_of_lt (Nat.pow_le_pow_right (n := 2) (by decide) (show k ≤ 31 by omega)) (by decide)
theorem by_step {k : Nat} (h : k < 32) : IntKind.u32.wrap (2 * ((2 ^ k % 4294967296 : Nat) : Int)) = ((2 ^ (k + 1) % 4294967296 : Nat) : Int) := by
  rw [Nat.mod_eq_of_lt (pow_u32 h), IntKind.wrap_u32, Nat.pow_succ]
  have := pow_u32 h
  omega
theorem out_t {a b k : Nat} (hk : k < 32) (h : ((sr a k : Nat) : Int) % 2 ≠ ((sr b k : Nat) : Int) % 2) : IntKind.u32.wrap ((((a ^^^ b) % 2 ^ k : Nat) : Int) + ((2 ^ k % 4294967296 : Nat) : Int)) = (((a ^^^ b) % 2 ^ (k + 1) : Nat) : Int) := by
  have e := bit_xor a b k
  have h1 : sr (a ^^^ b) k % 2 = 1 := by omega
  have h2 := pow_u32 hk
  have h3 : (a ^^^ b) % 2 ^ (k + 1) < 2 ^ (k + 1) := Nat.mod_lt _ (Nat.pow_pos (by decide))
  have h4 : (a ^^^ b) % 2 ^ k < 2 ^ k := Nat.mod_lt _ (Nat.pow_pos (by decide))
  have h5 : (2 : Nat) ^ k ≤ 2147483648 := Nat.pow_le_pow_right (n := 2) (by decide) (show k ≤ 31 by omega)
  rw [modp_succ, h1, Nat.mul_one, Nat.mod_eq_of_lt h2, IntWalk.u32_in _ (by omega)]
  omega
theorem out_f {a b k : Nat} (h : ((sr a k : Nat) : Int) % 2 = ((sr b k : Nat) : Int) % 2) : (a ^^^ b) % 2 ^ k = (a ^^^ b) % 2 ^ (k + 1) := by
  have e := bit_xor a b k
  have h1 : sr (a ^^^ b) k % 2 = 0 := by omega
  rw [modp_succ, h1, Nat.mul_zero, Nat.add_zero]
theorem trn_sub {n : Nat} (h : n < 2 ^ 32) : (4294967295 : Int) - (n : Int) = (trn n : Nat) := by
  have e : trn n = 4294967295 - n := by
    refine Nat.eq_of_testBit_eq fun i => ?_
    have h1 := Nat.testBit_two_pow_sub_succ h i
    rw [show 2 ^ 32 - (n + 1) = 4294967295 - n by omega] at h1
    rw [h1, trn, Nat.testBit_xor, show ones = 2 ^ 32 - 1 from rfl, Nat.testBit_two_pow_sub_one]
    by_cases hi : i < 32
    · simp [hi]
    · have : n.testBit i = false := Nat.testBit_lt_two_pow (Nat.lt_of_lt_of_le h (Nat.pow_le_pow_right (n := 2) (by decide) (by omega)))
      simp [hi, this]
  rw [e]; omega
theorem top_iff {n : Nat} (h : n < 2 ^ 32) : n >>> 31 = 1 ↔ (2147483648 : Int) ≤ n := by
  rw [Nat.shiftRight_eq_div_pow]; omega
theorem back_t {n : Nat} (h : n >>> 31 = 1) : IntKind.u32.wrap (IntKind.u32.wrap (2 * ((n ^^^ PL : Nat) : Int)) + 1) = (Wr n : Nat) := by
  have h2 := top_xor' h
  rw [IntWalk.u32_in (2 * _) (by omega), IntWalk.u32_in _ (by omega), Wr_top h, Nat.shiftLeft_eq]
  omega
theorem back_f {n : Nat} (h : ¬ n >>> 31 = 1) (hn : n < 2 ^ 32) : IntKind.u32.wrap (2 * (n : Int)) = (Wr n : Nat) := by
  have := doubled_f h hn
  rw [← this]; congr 1; omega

set_option maxRecDepth 4000 in
set_option maxHeartbeats 1000000 in
theorem cloneN (l : List Nat) (h : l.length ≤ 2000000) : DFun Try.prog 35 [.slf 1 l.length (l.flatMap un8)] [] (.arr 0) [.arr 5 1 l.length (l.flatMap un8)] := by
  refine dcalls_go (N := 8) 0 (by kernel_rfl) Try.func35 rfl rfl rfl (by simp only [fr0, Nat.zero_add, Nat.reduceAdd]; exact rfl) rfl fun s0 hs0 => ?_
  refine dwp_len (t := 0) rfl fun hl0 hL0 => ?_
  refine dwp_seq ?_
  refine dwp_region ?_
  refine walk_r rfl rfl rfl (op_move (.inr rfl) (ev1 rfl)) ?_
  refine walk_nil ?_
  refine dwp_seq ?_
  refine dwp_seq ?_
  refine dwp_region ?_
  refine walk_r rfl rfl rfl (op_move (.inl rfl) (ev1 rfl)) ?_
  refine walk_nil? rfl rfl rfl rfl sl36 (ev1 rfl) fun nb4 hnb4 => ?_
  refine walk_nil ?_
  refine dwp_cond rfl (fun c1 => ?_) (fun c1 => ?_)
  · try simp only [decide_eq_true_eq, decide_eq_false_iff_not, beq_iff_eq, bne_iff_ne, beq_eq_false_iff_ne, bne_eq_false_iff_eq, Bool.not_eq_true', Bool.not_eq_false', Bool.and_eq_true, Bool.or_eq_true, Bool.or_eq_false_iff, ne_eq, Decidable.not_not, Int.not_lt, Int.not_le] at c1
    refine dwp_seq ?_
    refine dwp_region ?_
    refine walk_r rfl rfl rfl (op_move (.inr rfl) (ev1 rfl)) ?_
    refine walk_nil ?_
    refine dwp_adopt 2 5 1 rfl rfl rfl ?_
    refine dwp_ret ?_
    refine kend [0] (rs1 rfl (rv_t rfl)) rfl rfl ?_ ⟨?_, trivial⟩
    rfl
    exact (by obtain ⟨h1, h2⟩ := hnb4 c1; simp_all [MFits, vwB])
  · try simp only [decide_eq_true_eq, decide_eq_false_iff_not, beq_iff_eq, bne_iff_ne, beq_eq_false_iff_ne, bne_eq_false_iff_eq, Bool.not_eq_true', Bool.not_eq_false', Bool.and_eq_true, Bool.or_eq_true, Bool.or_eq_false_iff, ne_eq, Decidable.not_not, Int.not_lt, Int.not_le] at c1
    refine dwp_skip ?_
    refine dwp_seq ?_
    refine dwp_holes 2 (by simp only [holes, List.cons_append, List.nil_append]; exact rfl) ?_
    refine dwp_region ?_
    refine walk_w rfl rfl rfl (op_bsa (ps := []) 0 rfl sl36 zr5 rfl vn rfl (by decide) (by decide) rfl) (by simp only [upd, List.set_cons_zero, List.set_cons_succ]; exact rfl) ?_
    refine walk_r rfl rfl rfl (op_move (.inl rfl) (ev1 rfl)) ?_
    refine walk_w rfl rfl rfl (op_app (j := 1) rfl sl36 zr5 rfl (ev1 rfl) (ev1 rfl) src_slf rfl rfl (fun _ => flat_oc (fun _ => rfl) l) (fun _ => ⟨by omega, by omega⟩)) (by simp only [upd, List.set_cons_zero, List.set_cons_succ]; exact rfl) ?_
    refine walk_r rfl rfl rfl (op_move (.inr rfl) (ev1 rfl)) ?_
    refine walk_nil ?_
    refine dwp_ret ?_
    refine kend [1] (rs1 rfl (rv_t rfl)) rfl rfl ?_ ⟨?_, trivial⟩
    rfl
    simp [vwB]

theorem cloneN_f (l : List Nat) (h : l.length ≤ 2000000) : DFun Try.prog 35 [.slf 1 l.length (l.flatMap un8)] [] (.slf 1 l.length (l.flatMap un8)) [] := freeze (cloneN l h) rfl

set_option maxRecDepth 4000 in
set_option maxHeartbeats 1000000 in
theorem equalN (l r : List Nat) : DFun Try.prog 32 [.slf 1 l.length (l.flatMap un8), .slf 1 r.length (r.flatMap un8)] [] (.val (.bool (decide (l = r)))) [] := by
  refine dcalls_go (N := 26) 0 (by kernel_rfl) Try.func32 rfl rfl rfl (by simp only [fr0, Nat.zero_add, Nat.reduceAdd]; exact rfl) rfl fun s0 hs0 => ?_
  refine dwp_len (t := 0) rfl fun hl0 hL0 => ?_
  refine dwp_len (t := 1) rfl fun hl1 hL1 => ?_
  refine dwp_seq ?_
  refine dwp_region ?_
  refine walk_r rfl rfl rfl (op_move (.inr rfl) (ev1 rfl)) ?_
  refine walk_nil ?_
  refine dwp_seq ?_
  refine dwp_seq ?_
  refine dwp_region ?_
  refine walk_r rfl rfl rfl (op_move (.inl rfl) (ev1 rfl)) ?_
  refine walk_r rfl rfl rfl (op_len rfl sl36 (ev1 rfl)) ?_
  refine walk_r rfl rfl rfl (op_move (.inl rfl) (ev1 rfl)) ?_
  refine walk_r rfl rfl rfl (op_len rfl sl36 (ev1 rfl)) ?_
  refine walk_r rfl rfl rfl (op_neq rfl (ev1 rfl) (ev1 rfl)) ?_
  refine walk_nil ?_
  refine dwp_cond rfl (fun c1 => ?_) (fun c1 => ?_)
  · try simp only [decide_eq_true_eq, decide_eq_false_iff_not, beq_iff_eq, bne_iff_ne, beq_eq_false_iff_ne, bne_eq_false_iff_eq, Bool.not_eq_true', Bool.not_eq_false', Bool.and_eq_true, Bool.or_eq_true, Bool.or_eq_false_iff, ne_eq, Decidable.not_not, Int.not_lt, Int.not_le] at c1
    refine dwp_seq ?_
    refine dwp_region ?_
    refine walk_r rfl rfl rfl (op_move (.inr rfl) (ev1 rfl)) ?_
    refine walk_nil ?_
    refine dwp_ret ?_
    refine kend0 (rs1 rfl (rv_t rfl)) rfl ?_
    have hne : l ≠ r := fun e => by subst e; exact c1 rfl
    rw [decide_eq_false hne]
  · try simp only [decide_eq_true_eq, decide_eq_false_iff_not, beq_iff_eq, bne_iff_ne, beq_eq_false_iff_ne, bne_eq_false_iff_eq, Bool.not_eq_true', Bool.not_eq_false', Bool.and_eq_true, Bool.or_eq_true, Bool.or_eq_false_iff, ne_eq, Decidable.not_not, Int.not_lt, Int.not_le] at c1
    have hlen : l.length = r.length := by omega
    refine dwp_skip ?_
    refine dwp_seq ?_
    refine dwp_seq ?_
    refine dwp_region ?_
    refine walk_r rfl rfl rfl (op_move (.inl rfl) (ev1 rfl)) ?_
    refine walk_r rfl rfl rfl (op_len rfl sl36 (ev1 rfl)) ?_
    refine walk_r rfl rfl rfl (op_move (.inl rfl) (ev1 rfl)) ?_
    refine walk_nil ?_
    refine dwp_block ?_
    refine dwp_loopS ⟨hs0, rfl⟩ (α := Nat) (fun k => [(13, .val (.int .i64 (k : Int)))]) [(0, _), (1, _), (12, _)] (fun k => []) [] (fun k => k ≤ l.length ∧ l.take k = r.take k) (fun k => l.length - k) 0 [] (by simp) rfl ⟨rfl, rfl, rfl, trivial⟩ ⟨rfl, trivial⟩ trivial ?_
    intro k hx
    simp only [upd, List.set_cons_zero, List.set_cons_succ, List.cons_append, List.nil_append]
    obtain ⟨hk, he⟩ := hx
    refine dwp_seq ?_
    refine dwp_region ?_
    refine walk_r rfl rfl rfl (op_lss rfl (ev1 rfl) (ev1 rfl)) ?_
    refine walk_nil ?_
    refine dwp_seq ?_
    refine dwp_cond rfl (fun c2 => ?_) (fun c2 => ?_)
    · try simp only [decide_eq_true_eq, decide_eq_false_iff_not, beq_iff_eq, bne_iff_ne, beq_eq_false_iff_ne, bne_eq_false_iff_eq, Bool.not_eq_true', Bool.not_eq_false', Bool.and_eq_true, Bool.or_eq_true, Bool.or_eq_false_iff, ne_eq, Decidable.not_not, Int.not_lt, Int.not_le] at c2
      refine dwp_skip ?_
      refine dwp_seq ?_
      refine dwp_block ?_
      refine dwp_seq ?_
      refine dwp_region ?_
      refine walk_r rfl rfl rfl (op_move (.inl rfl) (ev1 rfl)) ?_
      refine walk_r rfl rfl rfl (op_move (.inr rfl) (ev1 rfl)) ?_
      refine walk_nil ?_
      refine dwp_seq ?_
      refine dwp_draw [([], []), ([], []), ([], []), ([], []), ([], []), ([], []), ([], []), ([], []), ([], [])] mixed (by kernel_rfl) ?_
      refine lex_r rfl rfl (op_move (.inl rfl) (ev1 rfl)) ?_
      refine lex_r rfl rfl (op_move (.inl rfl) (ev1 rfl)) ?_
      refine lex_r rfl rfl (op_ixsr (j := k) rfl sl36 (ev1 rfl) (ev1 rfl) (fun _ => rfl) (by decide) (by omega) (by omega)) ?_
      refine lex_r rfl rfl (op_ldod rfl tb5 (ev1 rfl) rfl) ?_
      refine lex_r rfl rfl (op_move (.inl rfl) (ev1 rfl)) ?_
      refine lex_r rfl rfl (op_move (.inl rfl) (ev1 rfl)) ?_
      refine lex_r rfl rfl (op_ixsr (j := k) rfl sl36 (ev1 rfl) (ev1 rfl) (fun _ => rfl) (by decide) (by omega) (by omega)) ?_
      refine lex_r rfl rfl (op_ldod rfl tb5 (ev1 rfl) rfl) ?_
      refine lex_r rfl rfl (op_neq rfl (ev1 rfl) (ev1 rfl)) ?_
      refine lex_nil ?_
      refine dwp_cond rfl (fun c2 => ?_) (fun c2 => ?_)
      · have c3 : l[k] ≠ r[k] := by simp at c2; omega
        refine dwp_seq ?_
        refine dwp_region ?_
        refine walk_r rfl rfl rfl (op_move (.inr rfl) (ev1 rfl)) ?_
        refine walk_nil ?_
        refine dwp_ret ?_
        refine kend0 (rs1 rfl (rv_t rfl)) rfl ?_
        have hne : l ≠ r := fun e => by subst e; exact c3 rfl
        rw [decide_eq_false hne]
      · have c3 : l[k] = r[k] := by simp at c2; omega
        refine dwp_skip ?_
        refine dwp_region ?_
        refine walk_r rfl rfl rfl (op_add' rfl (ev1 rfl) (ev1 rfl) (fun _ => IntWalk.i64_in _ (by omega))) ?_
        refine walk_r rfl rfl rfl (op_move (.inl rfl) (ev1 rfl)) ?_
        refine walk_nil ?_
        refine ⟨k + 1, [], ⟨by omega, by rw [List.take_succ_eq_append_getElem (by omega), List.take_succ_eq_append_getElem (by omega), he, c3]⟩, by simp only []; omega, rfl, ⟨rfl, rfl, rfl, rfl, trivial⟩, trivial⟩
    · try simp only [decide_eq_true_eq, decide_eq_false_iff_not, beq_iff_eq, bne_iff_ne, beq_eq_false_iff_ne, bne_eq_false_iff_eq, Bool.not_eq_true', Bool.not_eq_false', Bool.and_eq_true, Bool.or_eq_true, Bool.or_eq_false_iff, ne_eq, Decidable.not_not, Int.not_lt, Int.not_le] at c2
      refine dwp_exit ?_
      refine dwp_seq ?_
      refine dwp_region ?_
      refine walk_r rfl rfl rfl (op_move (.inr rfl) (ev1 rfl)) ?_
      refine walk_nil ?_
      refine dwp_ret ?_
      refine kend0 (rs1 rfl (rv_t rfl)) rfl ?_
      have e : l = r := by
        have h := he
        rw [List.take_of_length_le (by omega), List.take_of_length_le (by omega)] at h
        exact h
      rw [decide_eq_true e]

abbrev w2 (p : Nat × Nat) : List Value := [.int .u32 (p.1 : Int), .int .u32 (p.2 : Int)]

theorem wants1 {s w : Nat} (hs : s < 2 ^ 32) (hw : w < 2 ^ 32) : moreC s (four (Ws 32 (trn w) ^^^ trn s)) = w := by
  unfold moreC
  rw [fed_four _ (Nat.xor_lt_two_pow (Ws_lt 32 (trn_lt hw)) (trn_lt hs)), Nat.xor_comm (Ws 32 (trn w)), ← Nat.xor_assoc, Nat.xor_self, Nat.zero_xor, Zs_Ws 32 (trn_lt hw), trn_trn]
theorem wants2 {s : Nat} {l : List Nat} (hs : s < 2 ^ 32) (h4 : l.length = 4) (hn : isN l) : four (Ws 32 (trn (moreC s l)) ^^^ trn s) = l := by
  obtain ⟨b, hb, rfl⟩ := four_of h4 hn
  unfold moreC
  rw [trn_trn, fed_four _ hb, Ws_Zs 32 (Nat.xor_lt_two_pow (trn_lt hs) hb), xor_xor']
theorem wants3 {s w : Nat} {l : List Nat} (hs : s < 2 ^ 32) (hw : w < 2 ^ 32) (h4 : l.length = 4) (hn : isN l) : moreC s l = w ↔ l = four (Ws 32 (trn w) ^^^ trn s) :=
  ⟨fun h => by rw [← h, wants2 hs h4 hn], fun h => by rw [h, wants1 hs hw]⟩
theorem few_lt {l : List Nat} (h : isN l) : isN (l.take (min l.length 400)) := fun x hx => h x (List.mem_of_mem_take hx)
theorem few_len (l : List Nat) : (l.take (min l.length 400)).length ≤ 400 := by rw [List.length_take]; omega

theorem shl8 (y : Nat) : y <<< 8 = y * 256 := by rw [Nat.shiftLeft_eq]
theorem mod_split (D n : Nat) : D % 2 ^ (8 * (n + 1)) = D % 256 + ((D >>> 8) % 2 ^ (8 * n)) * 256 := by
  rw [show (2 : Nat) ^ (8 * (n + 1)) = 256 * 2 ^ (8 * n) by rw [Nat.mul_succ, Nat.pow_add, Nat.mul_comm], Nat.mod_mul, Nat.shiftRight_eq_div_pow, Nat.mul_comm 256]
theorem spl_cons (D x : Nat) (l : List Nat) : spl D (x :: l) = (x ^^^ (D % 256)) :: spl (D >>> 8) l := by
  unfold spl
  rw [List.mapIdx_cons]
  congr 1
  congr 1
  funext k y
  rw [← Nat.shiftRight_add, show 8 * (k + 1) = 8 + 8 * k by omega]
theorem valL_spl : ∀ (D : Nat) (l : List Nat), valL (spl D l) = valL l ^^^ (D % 2 ^ (8 * l.length))
  | D, [] => by rw [show spl D [] = [] from rfl, List.length_nil, Nat.mul_zero, Nat.pow_zero, Nat.mod_one, Nat.xor_zero]
  | D, x :: l => by
    rw [spl_cons, valL, valL, valL_spl (D >>> 8) l, List.length_cons, mod_split, ← low_xor (Nat.mod_lt D (by decide)), Nat.shiftLeft_xor_distrib]
    generalize valL l <<< 8 = a
    generalize ((D >>> 8) % 2 ^ (8 * l.length)) <<< 8 = b
    generalize D % 256 = c
    rw [Nat.xor_assoc x c, Nat.xor_assoc x a, ← Nat.xor_assoc c a, Nat.xor_comm c a, Nat.xor_assoc a c]
theorem bytes_zero : ∀ (n D : Nat), (∀ k, k < n → (D >>> (8 * k)) % 256 = 0) ↔ D % 2 ^ (8 * n) = 0
  | 0, D => by simp [Nat.mod_one]
  | n + 1, D => by
    rw [mod_split]
    have ih := bytes_zero n (D >>> 8)
    have hs : ∀ k, D >>> 8 >>> (8 * k) = D >>> (8 * (k + 1)) := fun k => by rw [← Nat.shiftRight_add, show 8 * (k + 1) = 8 + 8 * k by omega]
    simp only [hs] at ih
    constructor
    · intro h
      have h0 := h 0 (by omega)
      have h1 := ih.1 fun k hk => h (k + 1) (by omega)
      rw [h1]
      simpa using h0
    · intro h k hk
      have h1 := ih.2 (by omega)
      cases k with
      | zero => simp; omega
      | succ k => exact h1 k (by omega)
theorem spl_mod {mask bit n : Nat} (hb : bit < 8 * n) : (mask <<< bit) % 2 ^ (8 * n) = (mask % 2 ^ (8 * n - bit)) <<< bit := by
  rw [Nat.shiftLeft_eq, Nat.shiftLeft_eq, show (2 : Nat) ^ (8 * n) = 2 ^ (8 * n - bit) * 2 ^ bit by rw [← Nat.pow_add]; congr 1; omega, Nat.mul_mod_mul_right]
theorem broken {l : List Nat} {mask bit : Nat} (r : Nat) (hb : bit < 8 * l.length) (hm : mask < 2 ^ 32) (h0 : ¬ ∀ k, k < l.length → ((mask <<< bit) >>> (8 * k)) % 256 = 0) : fed r (spl (mask <<< bit) l) ≠ fed r l := by
  refine burst (m := mask % 2 ^ (8 * l.length - bit)) (bit := bit) (spl_len _ _) (by rw [valL_spl, spl_mod hb]) (by omega) (fun e => h0 ((bytes_zero _ _).2 ?_)) (Nat.lt_of_le_of_lt (Nat.mod_le _ _) hm)
  rw [spl_mod hb, e, Nat.zero_shiftLeft]
theorem spl_ne {l : List Nat} {mask bit : Nat} (hb : bit < 8 * l.length) (hm : mask < 2 ^ 32) (h0 : ¬ ∀ k, k < l.length → ((mask <<< bit) >>> (8 * k)) % 256 = 0) : spl (mask <<< bit) l ≠ l := fun e => broken 0 hb hm h0 (by rw [e])
theorem spl_spl (D : Nat) (l : List Nat) : spl D (spl D l) = l := by
  apply List.ext_getElem?
  intro k
  rw [spl_at, spl_at]
  cases l[k]? with
  | none => rfl
  | some x => simp [xor_xor]
theorem mask_none {mask bit n : Nat} (hb : bit < 8 * n) (hm : mask < 2 ^ 32) (h0 : ∀ k, k < n → ((mask <<< bit) >>> (8 * k)) % 256 = 0) : mask = 0 ∨ 8 * n < bit + 32 := by
  have h := (bytes_zero _ _).1 h0
  rw [spl_mod hb, Nat.shiftLeft_eq] at h
  have hp : 0 < 2 ^ bit := Nat.pow_pos (by decide)
  have h1 : mask % 2 ^ (8 * n - bit) = 0 := by
    rcases Nat.mul_eq_zero.1 h with h | h
    · exact h
    · omega
  rcases Nat.lt_or_ge (8 * n) (bit + 32) with h2 | h2
  · exact .inr h2
  · left
    rw [Nat.mod_eq_of_lt (Nat.lt_of_lt_of_le hm (Nat.pow_le_pow_right (by decide) (by omega)))] at h1
    exact h1

theorem seal_lt {l : List Nat} (h : isN l) : isN (sealC l) := fun x hx => by
  rcases List.mem_append.1 hx with hx | hx
  · exact h x hx
  · exact four_lt (more_lt h (by decide)) x hx
theorem seal_take (l : List Nat) : (sealC l).take ((sealC l).length - 4) = l := by
  rw [sealC_len, Nat.add_sub_cancel, sealC, List.take_left]
theorem seal_drop (l : List Nat) : (sealC l).drop ((sealC l).length - 4) = four (moreC 0 l) := by
  rw [sealC_len, Nat.add_sub_cancel, sealC, List.drop_left]
theorem open_seal (l : List Nat) : four (moreC 0 ((sealC l).take ((sealC l).length - 4))) = (sealC l).drop ((sealC l).length - 4) := by rw [seal_take, seal_drop]
theorem not_sealed {l m : List Nat} (hl : isN l) (hm : isN m) (h4 : 4 ≤ m.length) (h : fed ones m ≠ fed ones (sealC l)) : ¬ four (moreC 0 (m.take (m.length - 4))) = m.drop (m.length - 4) := by
  intro e
  obtain ⟨w, hw, et⟩ := four_of (l := m.drop (m.length - 4)) (by rw [List.length_drop]; omega) (fun x hx => hm x (List.mem_of_mem_drop hx))
  rw [et] at e
  have hbn : isN (m.take (m.length - 4)) := fun x hx => hm x (List.mem_of_mem_take hx)
  have hw2 := four_inj (more_lt hbn (by decide)) hw e
  have h1 := (seal_iff hbn hw).2 (by rw [sum_more]; exact hw2.symm)
  rw [← et, List.take_append_drop] at h1
  have h2 : fed ones (sealC l) = Zs 32 ones := (seal_iff hl (more_lt hl (by decide))).2 (sum_more l).symm
  exact h (h1.trans h2.symm)
theorem burst_no {l : List Nat} {mask bit : Nat} (hl : isN l) (hb : bit < 8 * (sealC l).length) (hm : mask < 2 ^ 32) (h0 : ¬ ∀ k, k < (sealC l).length → ((mask <<< bit) >>> (8 * k)) % 256 = 0) :
    ¬ four (moreC 0 ((spl (mask <<< bit) (sealC l)).take ((spl (mask <<< bit) (sealC l)).length - 4))) = (spl (mask <<< bit) (sealC l)).drop ((spl (mask <<< bit) (sealC l)).length - 4) :=
  not_sealed hl (spl_lt (seal_lt hl)) (by rw [spl_len, sealC_len]; omega) (broken ones hb hm h0)
theorem spoil_f (l : List Nat) (bit mask : Nat) (hm : mask < 2 ^ 32) (hb : bit < 8 * l.length) (hl : l.length ≤ 1000000) (hl2 : isN l) (h0 : ¬ ∀ k, k < l.length → ((mask <<< bit) >>> (8 * k)) % 256 = 0) :
    DFun Try.prog 75 [rN l, .val (.int .i64 (bit : Int)), .val (.int .u32 (mask : Int))] [] (.tup [rN (spl (mask <<< bit) l), .val (.int .i64 0)]) [] := by
  have h := freeze (spoil_o l bit mask hm hb hl hl2 h0) rfl
  have e : rN (spl (mask <<< bit) l) = .slf 1 l.length ((spl (mask <<< bit) l).flatMap un8) := by rw [rN, spl_len]
  rw [e]
  exact h
theorem bit_of (p : Int) {n : Nat} (h : 0 < n) : ∃ bit : Nat, bit < 8 * n ∧ IntKind.u64.wrap p % (8 * (n : Int)) = (bit : Int) := by
  have h1 := Int.emod_nonneg (IntKind.u64.wrap p) (show (8 * (n : Int)) ≠ 0 by omega)
  have h2 := Int.emod_lt_of_pos (IntKind.u64.wrap p) (show (0 : Int) < 8 * (n : Int) by omega)
  exact ⟨(IntKind.u64.wrap p % (8 * (n : Int))).toNat, by omega, by omega⟩

theorem more_nil (s : Nat) : moreC s [] = s := by unfold moreC; rw [fed, trn_trn]
theorem fed_inj : ∀ (l : List Nat) {r r' : Nat}, r < 2 ^ 32 → r' < 2 ^ 32 → isN l → fed r l = fed r' l → r = r'
  | [], _, _, _, _, _, h => h
  | x :: l, r, r', hr, hr', hl, h => by
    have hx := byte_lt (hl x (List.mem_cons_self ..))
    have h1 := fed_inj l (Zs_lt 8 (Nat.xor_lt_two_pow hr hx)) (Zs_lt 8 (Nat.xor_lt_two_pow hr' hx)) (fun y hy => hl y (List.mem_cons_of_mem _ hy)) h
    have h2 := Zs_inj 8 (Nat.xor_lt_two_pow hr hx) (Nat.xor_lt_two_pow hr' hx) h1
    rw [← xor_xor r x, h2, xor_xor]
theorem set_more {l : List Nat} {a b : Nat} (hl : isN l) (hb : b < 256) (ha : a < l.length) : moreC 0 (l.set a b) = moreC 0 l ↔ b = l[a] := by
  have e1 : l.set a b = l.take a ++ b :: l.drop (a + 1) := by rw [List.set_eq_take_append_cons_drop, if_pos ha]
  have e2 : l.take a ++ l[a] :: l.drop (a + 1) = l := by rw [List.getElem_cons_drop, List.take_append_drop]
  constructor
  · intro h
    unfold moreC at h
    have h := congrArg trn h
    rw [trn_trn, trn_trn] at h
    rw [e1] at h
    have h3 : fed (trn 0) (l.take a ++ b :: l.drop (a + 1)) = fed (trn 0) (l.take a ++ l[a] :: l.drop (a + 1)) := by rw [e2]; exact h
    rw [fed_app, fed_app, fed, fed] at h3
    have ht : isN (l.take a) := fun x hx => hl x (List.mem_of_mem_take hx)
    have hd : isN (l.drop (a + 1)) := fun x hx => hl x (List.mem_of_mem_drop hx)
    have hf := fed_lt (l.take a) (trn_lt (show 0 < 2 ^ 32 by decide)) ht
    have hla : l[a] < 256 := hl _ (List.getElem_mem ha)
    have h4 := fed_inj _ (Zs_lt 8 (Nat.xor_lt_two_pow hf (byte_lt hb))) (Zs_lt 8 (Nat.xor_lt_two_pow hf (byte_lt hla))) hd h3
    have h5 := Zs_inj 8 (Nat.xor_lt_two_pow hf (byte_lt hb)) (Nat.xor_lt_two_pow hf (byte_lt hla)) h4
    rw [← xor_xor' (fed (trn 0) (l.take a)) b, h5, xor_xor']
  · intro h
    rw [h, List.set_getElem_self]
theorem set_lt {l : List Nat} {a b : Nat} (h : isN l) (hb : b < 256) : isN (l.set a b) := fun x hx => by
  rcases List.mem_or_eq_of_mem_set hx with h1 | h1
  · exact h x h1
  · rw [h1]; exact hb
theorem place_of (p : Int) {n : Nat} (h : 0 < n) : ∃ a : Nat, a < n ∧ IntKind.u64.wrap p % (n : Int) = (a : Int) := by
  have h1 := Int.emod_nonneg (IntKind.u64.wrap p) (show (n : Int) ≠ 0 by omega)
  have h2 := Int.emod_lt_of_pos (IntKind.u64.wrap p) (show (0 : Int) < (n : Int) by omega)
  exact ⟨(IntKind.u64.wrap p % (n : Int)).toNat, by omega, by omega⟩
theorem sub_N {l : List Nat} (h : isN l) (o n : Nat) : isN ((l.drop o).take n) := fun x hx => h x (List.mem_of_mem_drop (List.mem_of_mem_take hx))
theorem rn_sub {l : List Nat} {o n : Nat} (h : o + n ≤ l.length) : rN ((l.drop o).take n) = .slf 1 n (((l.flatMap un8).drop (o * 1)).take (n * 1)) := by
  have e : ∀ l : List Nat, l.flatMap un8 = l.map fun x : Nat => Value.int .u8 (x : Int) := fun l => by
    induction l with
    | nil => rfl
    | cons x l ih => rw [List.flatMap_cons, ih]; rfl
  have h1 : ((l.drop o).take n).length = n := by rw [List.length_take, List.length_drop]; omega
  rw [rN, h1, e, e, List.map_take, List.map_drop, Nat.mul_one, Nat.mul_one]
theorem sum_n {l : List Nat} (n : Nat) (h : n = l.length) (hn : isN l) (hl : l.length ≤ 1000000) : DFun Try.prog 56 [.slm 1 1 [.slf 1 n (l.flatMap un8)]] [] (.val (.int .u32 (moreC 0 l : Nat))) [] := by
  subst h
  exact sum1_c l hn hl
theorem sum_own {l : List Nat} (o n : Nat) (h : o + n ≤ l.length) (hn : isN l) (hl : l.length ≤ 1000000) : DFun Try.prog 56 [.slm 1 1 [.slf 1 n (((l.flatMap un8).drop (o * 1)).take (n * 1))]] [] (.val (.int .u32 (moreC 0 ((l.drop o).take n) : Nat))) [] := by
  rw [← rn_sub h]
  exact sum1_c _ (sub_N hn o n) (by rw [List.length_take, List.length_drop]; omega)
theorem sum_two {l : List Nat} (o n o' n' : Nat) (h : o + n ≤ l.length) (h' : o' + n' ≤ l.length) (hn : isN l) (hl : l.length ≤ 1000000) : DFun Try.prog 56 [.slm 1 2 [.slf 1 n (((l.flatMap un8).drop (o * 1)).take (n * 1)), .slf 1 n' (((l.flatMap un8).drop (o' * 1)).take (n' * 1))]] [] (.val (.int .u32 (moreC 0 ((l.drop o).take n ++ (l.drop o').take n') : Nat))) [] := by
  rw [← rn_sub h, ← rn_sub h']
  have h1 := sum_c [(l.drop o).take n, (l.drop o').take n'] (by simp only [List.mem_cons, List.not_mem_nil, or_false]; rintro p (rfl | rfl) <;> exact sub_N hn _ _) (by simp) (by simp only [List.mem_cons, List.not_mem_nil, or_false]; rintro p (rfl | rfl) <;> rw [List.length_take, List.length_drop] <;> omega)
  rw [show [(l.drop o).take n, (l.drop o').take n'].flatten = (l.drop o).take n ++ (l.drop o').take n' by simp] at h1
  exact h1
theorem cut_more {l : List Nat} {a : Nat} (ha : a ≤ l.length) : moreC (moreC 0 ((l.drop 0).take a)) ((l.drop a).take (l.length - a)) = moreC 0 l ∧ moreC 0 ((l.drop 0).take a ++ (l.drop a).take (l.length - a)) = moreC 0 l := by
  have e : (l.drop 0).take a ++ (l.drop a).take (l.length - a) = l := by
    have e2 : (l.drop a).take (l.length - a) = l.drop a := List.take_of_length_le (by rw [List.length_drop]; omega)
    rw [List.drop_zero, e2, List.take_append_drop]
  exact ⟨by rw [← more_app, e], by rw [e]⟩

theorem bit_of_byte (x i : Nat) : sr x i % 2 = (x.testBit i).toNat := by rw [sr, Nat.shiftRight_eq_div_pow, Nat.toNat_testBit]
theorem byte_val : ∀ (l : List Nat) (k : Nat), (∀ x ∈ l, x < 256) → k < l.length → l.getD k 0 = (valL l >>> (8 * k)) % 2 ^ 8
  | [], k, _, h => by cases h
  | x :: l, 0, h, _ => by
    have hx := h x (List.mem_cons_self ..)
    rw [valL, low_xor hx, Nat.mul_zero, Nat.shiftRight_zero]
    simp
    omega
  | x :: l, k + 1, h, hk => by
    have hx := h x (List.mem_cons_self ..)
    have ih := byte_val l k (fun y hy => h y (List.mem_cons_of_mem _ hy)) (by simpa using hk)
    rw [valL, low_xor hx, show 8 * (k + 1) = 8 + 8 * k by omega, Nat.shiftRight_add]
    have e : (x + valL l * 256) >>> 8 = valL l := by rw [Nat.shiftRight_eq_div_pow]; omega
    rw [e, ← ih]
    simp
theorem bit_val {l : List Nat} {j : Nat} (hl : ∀ x ∈ l, x < 256) (hj : j < 8 * l.length) : sr (l.getD (j / 8) 0) (j % 8) % 2 = ((valL l).testBit j).toNat := by
  rw [bit_of_byte, byte_val l (j / 8) hl (by omega), Nat.testBit_mod_two_pow, Nat.testBit_shiftRight, show 8 * (j / 8) + j % 8 = j by omega]
  simp [show j % 8 < 8 by omega]
theorem valL_lt : ∀ (l : List Nat), (∀ x ∈ l, x < 256) → valL l < 2 ^ (8 * l.length)
  | [], _ => by simp [valL]
  | x :: l, h => by
    have hx := h x (List.mem_cons_self ..)
    have ih := valL_lt l fun y hy => h y (List.mem_cons_of_mem _ hy)
    rw [valL, low_xor hx, List.length_cons, show 8 * (l.length + 1) = 8 * l.length + 8 by omega, Nat.pow_add]
    generalize 2 ^ (8 * l.length) = p at ih
    omega
theorem feed_step {r : Nat} {l : List Nat} {j : Nat} : Zr (Zs j (r ^^^ valL l % 2 ^ j) ^^^ ((valL l).testBit j).toNat) = Zs (j + 1) (r ^^^ valL l % 2 ^ (j + 1)) := by
  rw [mod_succ, ← Nat.xor_assoc, Zs_succ, Zs_xor j (r ^^^ valL l % 2 ^ j)]
  congr 2
  cases (valL l).testBit j with
  | false => simp [Zs_zero]
  | true => simp [Zs_shl]
theorem feed_end {r : Nat} {l : List Nat} (hl : ∀ x ∈ l, x < 256) : Zs (8 * l.length) (r ^^^ valL l % 2 ^ (8 * l.length)) = fed r l := by
  rw [Nat.mod_eq_of_lt (valL_lt l hl), fed_val]
theorem fdb_t {r b : Nat} (hb : b < 2) (h : r % 2 ≠ b) : (r >>> 1) ^^^ PL = Zr (r ^^^ b) := by
  have e : b = 0 ∨ b = 1 := by omega
  rw [Zr_odd (by rw [mod2_xor]; omega), Nat.shiftRight_xor_distrib]
  rcases e with rfl | rfl <;> simp
theorem fdb_f {r b : Nat} (hb : b < 2) (h : r % 2 = b) : r >>> 1 = Zr (r ^^^ b) := by
  have e : b = 0 ∨ b = 1 := by omega
  rw [Zr_even (by rw [mod2_xor]; omega), Nat.shiftRight_xor_distrib]
  rcases e with rfl | rfl <;> simp

theorem nat_div8 (n : Nat) : ((n : Int) / 8) = ((n / 8 : Nat) : Int) := by omega
theorem sr_two (x k : Nat) : ((sr x k : Nat) : Int) % 2 = ((sr x k % 2 : Nat) : Int) := by omega
theorem half_n (x : Nat) : @HDiv.hDiv Int Int Int _ (x : Int) (2 : Int) = ((x >>> 1 : Nat) : Int) := by rw [Nat.shiftRight_eq_div_pow]; omega

set_option maxRecDepth 4000 in
set_option maxHeartbeats 1000000 in
theorem bit_r (l : List Nat) (n : Nat) (hl : isN l) (hn : n < 8 * l.length) : DFun Try.prog 63 [.slf 1 (l).length ((l).flatMap un8), .val (.int .i64 (n : Int))] [] (.val (.int .u32 ((sr (l.getD (n / 8) 0) (n % 8) % 2 : Nat) : Int))) [] := by
  refine dcalls_go (N := 21) 0 (by kernel_rfl) Try.func63 rfl rfl rfl (by simp only [fr0, Nat.zero_add, Nat.reduceAdd]; exact rfl) rfl fun s0 hs0 => ?_
  refine dwp_len (t := 0) rfl fun hl0 hL0 => ?_
  refine dwp_seq ?_
  refine dwp_region ?_
  refine walk_r rfl rfl rfl (op_move (.inr rfl) (ev1 rfl)) ?_
  refine walk_nil ?_
  refine dwp_seq ?_
  have hq : n / 8 < l.length := by omega
  have hgx : l[n / 8] < 256 := hl _ (List.getElem_mem hq)
  have hgd : l.getD (n / 8) 0 = l[n / 8] := by rw [List.getD_eq_getElem?_getD, List.getElem?_eq_getElem hq]; rfl
  refine dwp_region ?_
  refine walk_r rfl rfl rfl (op_move (.inl rfl) (ev1 rfl)) ?_
  refine walk_r rfl rfl rfl (op_move (.inl rfl) (ev1 rfl)) ?_
  refine walk_r rfl rfl rfl (op_quo' rfl (ev1 rfl) (ev1 rfl) (fun _ => ⟨by omega, by omega, IntWalk.i64_in _ (by omega)⟩)) ?_
  refine walk_r rfl rfl rfl (op_ixsr (j := (n / 8)) rfl sl36 (ev1 rfl) (ev1 rfl) (fun _ => rfl) (by decide) (by omega) (by omega)) ?_
  refine walk_r rfl rfl rfl (op_ldod rfl tb5 (ev1 rfl) rfl) ?_
  refine walk_r rfl rfl rfl (op_conv' ty5 kn47 rfl (ev1 rfl) (fun _ => IntWalk.u32_in _ (by omega))) ?_
  refine walk_r rfl rfl rfl (op_move (.inr rfl) (ev1 rfl)) ?_
  refine walk_nil ?_
  refine dwp_seq ?_
  refine dwp_seq ?_
  refine dwp_region ?_
  refine walk_r rfl rfl rfl (op_move (.inl rfl) (ev1 rfl)) ?_
  refine walk_r rfl rfl rfl (op_rem' rfl (ev1 rfl) (ev1 rfl) (fun _ => ⟨by omega, by omega⟩)) ?_
  refine walk_r rfl rfl rfl (op_move (.inl rfl) (ev1 rfl)) ?_
  refine walk_nil ?_
  refine dwp_block ?_
  refine dwp_loopS ⟨hs0, rfl⟩ (α := Nat) (fun k => [(5, .val (.int .u32 ((sr (l.getD (n / 8) 0) k : Nat) : Int))), (14, .val (.int .i64 (k : Int)))]) [(13, _)] (fun k => []) [] (fun k => k ≤ n % 8) (fun k => 8 - k) 0 [] (by simp) rfl ⟨rfl, trivial⟩ ⟨by rw [hgd]; rfl, rfl, trivial⟩ trivial ?_
  intro k hx
  simp only [upd, List.set_cons_zero, List.set_cons_succ, List.cons_append, List.nil_append]
  have hk := hx
  have hsk : sr (l.getD (n / 8) 0) k < 2 ^ 32 := sr_lt (by rw [hgd]; omega) k
  refine dwp_seq ?_
  refine dwp_region ?_
  refine walk_r rfl rfl rfl (op_lss rfl (ev1 rfl) (ev1 rfl)) ?_
  refine walk_nil ?_
  refine dwp_seq ?_
  refine dwp_cond rfl (fun c1 => ?_) (fun c1 => ?_)
  · try simp only [decide_eq_true_eq, decide_eq_false_iff_not, beq_iff_eq, bne_iff_ne, beq_eq_false_iff_ne, bne_eq_false_iff_eq, Bool.not_eq_true', Bool.not_eq_false', Bool.and_eq_true, Bool.or_eq_true, Bool.or_eq_false_iff, ne_eq, Decidable.not_not, Int.not_lt, Int.not_le] at c1
    refine dwp_skip ?_
    refine dwp_seq ?_
    refine dwp_block ?_
    refine dwp_region ?_
    refine walk_r rfl rfl rfl (op_move (.inl rfl) (ev1 rfl)) ?_
    refine walk_r rfl rfl rfl (op_quo' rfl (ev1 rfl) (ev1 rfl) (fun _ => ⟨by omega, by omega, IntWalk.u32_in _ (by omega)⟩)) ?_
    refine walk_r rfl rfl rfl (op_move (.inr rfl) (ev1 rfl)) ?_
    refine walk_nil ?_
    refine dwp_region ?_
    refine walk_r rfl rfl rfl (op_add' rfl (ev1 rfl) (ev1 rfl) (fun _ => IntWalk.i64_in _ (by omega))) ?_
    refine walk_r rfl rfl rfl (op_move (.inl rfl) (ev1 rfl)) ?_
    refine walk_nil ?_
    refine ⟨k + 1, [], by omega, by simp only []; omega, rfl, ⟨congrArg (fun z => some (D.val (Value.int .u32 z))) (shr_succ _ k), rfl, rfl, trivial⟩, trivial⟩
  · try simp only [decide_eq_true_eq, decide_eq_false_iff_not, beq_iff_eq, bne_iff_ne, beq_eq_false_iff_ne, bne_eq_false_iff_eq, Bool.not_eq_true', Bool.not_eq_false', Bool.and_eq_true, Bool.or_eq_true, Bool.or_eq_false_iff, ne_eq, Decidable.not_not, Int.not_lt, Int.not_le] at c1
    refine dwp_exit ?_
    refine dwp_seq ?_
    obtain rfl : k = n % 8 := by omega
    have hsk2 := sr_lt (show l.getD (n / 8) 0 < 2 ^ 32 by rw [hgd]; omega) (n % 8)
    refine dwp_region ?_
    refine walk_r rfl rfl rfl (op_move (.inl rfl) (ev1 rfl)) ?_
    refine walk_r rfl rfl rfl (op_rem' rfl (ev1 rfl) (ev1 rfl) (fun _ => ⟨by omega, by omega⟩)) ?_
    refine walk_r rfl rfl rfl (op_move (.inr rfl) (ev1 rfl)) ?_
    refine walk_nil ?_
    refine dwp_ret ?_
    refine kend0 (rs1 rfl (rv_t rfl)) rfl ?_
    rw [sr_two]

abbrev fewN (l : List Nat) : List Nat := l.take (min l.length 400)
abbrev un32 (n : Nat) : List Value := [.int .u32 (n : Int)]
def fsN (ps : List (List Nat)) (k : Nat) : List (List Nat) := (ps.take k).map fewN
theorem vwL_flat {α : Type} {σ : List Nat} {V : Nat → Bool} {M : List Blk} {f : α → D} (h : ∀ a, vw σ V M (f a) = some (f a)) : ∀ l : List α, vwL σ V M (l.flatMap fun a => [f a]) = some (l.flatMap fun a => [f a])
  | [] => rfl
  | a :: l => by
    rw [List.flatMap_cons]
    show vwL σ V M (f a :: l.flatMap fun a => [f a]) = _
    unfold vwL
    rw [h a, vwL_flat h l]
    rfl
theorem arx_fits {σ : List Nat} {V : Nat → Bool} {M : List Blk} {T : TypeId} {n n' : Nat} {l l' : List D} (hn : n = n') (h : l = l') (hv : vwL σ V M l' = some l') : (vwL σ V M l).map (Blk.arx T 1 n) = some (Blk.arx T 1 n' l') := by
  subst hn h
  rw [hv]
  rfl
theorem flat_1 {α : Type} (l : List α) : [l].flatten = l := by simp
theorem fsN_zero (ps : List (List Nat)) : fsN ps 0 = [] := rfl
theorem fsN_succ {ps : List (List Nat)} {k : Nat} (h : k < ps.length) : fsN ps (k + 1) = fsN ps k ++ [fewN ps[k]] := by
  unfold fsN
  rw [List.take_succ_eq_append_getElem h, List.map_append]
  rfl
theorem fsN_len {ps : List (List Nat)} {k : Nat} (h : k ≤ ps.length) : (fsN ps k).length = k := by
  unfold fsN
  rw [List.length_map, List.length_take]
  omega
theorem fsN_at {ps : List (List Nat)} {k j : Nat} (h : j < (fsN ps k).length) (h2 : j < ps.length) : (fsN ps k)[j] = fewN ps[j] := by
  unfold fsN
  simp
theorem fsN_isN {ps : List (List Nat)} (h : ∀ p ∈ ps, isN p) (k : Nat) : ∀ p ∈ fsN ps k, isN p := by
  intro p hp
  obtain ⟨q, hq, rfl⟩ := List.mem_map.1 hp
  exact few_lt (h q (List.mem_of_mem_take hq))
theorem fsN_le {ps : List (List Nat)} (k : Nat) : ∀ p ∈ fsN ps k, p.length ≤ 400 := by
  intro p hp
  obtain ⟨q, hq, rfl⟩ := List.mem_map.1 hp
  exact few_len q
theorem fl_le {ls : List (List Nat)} (h : ∀ p ∈ ls, p.length ≤ 400) : ls.flatten.length ≤ 400 * ls.length := by
  induction ls with
  | nil => simp
  | cons a l ih =>
    have h1 := h a (List.mem_cons_self ..)
    have h2 := ih fun p hp => h p (List.mem_cons_of_mem _ hp)
    rw [List.flatten_cons, List.length_append, List.length_cons]
    omega
theorem u8_id {i : Nat} (h : i < 256) : IntKind.u8.wrap (i : Int) = (i : Int) := IntWalk.u8_in _ (by omega)
theorem fed_tab {i : Nat} (h : i < 256) : tabW.getD i 0 = fed 0 [i] := by
  rw [tabW_at h, fed, fed, Nat.zero_xor]

theorem tail_at {l : List Nat} {w k : Nat} (hx : four w = l.drop (l.length - 4)) (hk : k < 4) (h : 4 ≤ l.length) : l[l.length - 4 + k]'(by omega) = (four w)[k]'hk := by
  have e : (l.drop (l.length - 4))[k]? = (four w)[k]? := by rw [hx]
  rw [List.getElem?_drop, List.getElem?_eq_getElem (by omega), List.getElem?_eq_getElem (by exact hk)] at e
  exact Option.some.inj e
theorem tail_all {l : List Nat} {w : Nat} (h : 4 ≤ l.length) (hx : ∀ j, j < 4 → l.getD (l.length - 4 + j) 0 = (four w).getD j 0) : four w = l.drop (l.length - 4) := by
  apply List.ext_getElem
  · rw [List.length_drop, four_len]; omega
  · intro j h1 h2
    have := hx j h1
    rw [List.getD_eq_getElem?_getD, List.getD_eq_getElem?_getD, List.getElem?_eq_getElem (by rw [List.length_drop] at h2; omega), List.getElem?_eq_getElem h1] at this
    rw [List.getElem_drop]
    exact this.symm

theorem spl_xor (A B : Nat) (l : List Nat) : spl (A ^^^ B) l = spl B (spl A l) := by
  apply List.ext_getElem?
  intro k
  rw [spl_at, spl_at, spl_at]
  cases l[k]? with
  | none => rfl
  | some x =>
    simp only [Option.map_some]
    congr 1
    rw [Nat.shiftRight_xor_distrib, show (256 : Nat) = 2 ^ 8 from rfl, Nat.xor_mod_two_pow, Nat.xor_assoc]
theorem byte_one (n k : Nat) : ((1 <<< n) >>> (8 * k)) % 256 = if k = n / 8 then 1 <<< (n % 8) else 0 := by
  apply Nat.eq_of_testBit_eq
  intro i
  rw [show (256 : Nat) = 2 ^ 8 from rfl, Nat.testBit_mod_two_pow, Nat.testBit_shiftRight, one_shl]
  split
  · rename_i h
    rw [one_shl, Bool.eq_iff_iff]
    simp only [Bool.and_eq_true, decide_eq_true_eq]
    omega
  · rename_i h
    rw [Nat.zero_testBit, Bool.eq_iff_iff]
    simp only [Bool.and_eq_true, decide_eq_true_eq, Bool.false_eq_true, iff_false]
    omega
theorem spl_one {n : Nat} {l : List Nat} (h : n < 8 * l.length) : spl (1 <<< n) l = l.set (n / 8) (l[n / 8]'(by omega) ^^^ (1 <<< (n % 8))) := by
  apply List.ext_getElem?
  intro k
  rw [spl_at, byte_one, List.getElem?_set]
  by_cases e : n / 8 = k
  · subst e
    rw [if_pos rfl, if_pos rfl, if_pos (by omega), List.getElem?_eq_getElem (by omega)]
    rfl
  · rw [if_neg (Ne.symm e), if_neg e]
    cases l[k]? with
    | none => rfl
    | some x => simp
theorem spl_far {n : Nat} {l : List Nat} (h : 8 * l.length ≤ n) : spl (1 <<< n) l = l := by
  apply List.ext_getElem?
  intro k
  rw [spl_at, byte_one]
  by_cases hk : k < l.length
  · rw [if_neg (by omega), List.getElem?_eq_getElem hk]
    simp
  · rw [List.getElem?_eq_none (by omega)]
    rfl
theorem spl_zero (l : List Nat) : spl 0 l = l := by
  apply List.ext_getElem?
  intro k
  rw [spl_at]
  cases l[k]? with
  | none => rfl
  | some x => simp
def mD (mask bit i : Nat) : Nat := (mask % 2 ^ i) <<< bit
theorem mD_succ (mask bit i : Nat) : mD mask bit (i + 1) = mD mask bit i ^^^ (if mask.testBit i then 1 <<< (bit + i) else 0) := by
  unfold mD
  rw [mod_succ, Nat.shiftLeft_xor_distrib]
  congr 1
  split
  · rw [← Nat.shiftLeft_add, Nat.add_comm]
  · rw [Nat.zero_shiftLeft]
theorem mD_all {mask : Nat} (h : mask < 2 ^ 32) (bit : Nat) : mD mask bit 32 = mask <<< bit := by unfold mD; rw [Nat.mod_eq_of_lt h]
def mF (mask bit n i : Nat) : Bool := decide (mD mask bit i % 2 ^ (8 * n) ≠ 0)
theorem mF_zero (mask bit n : Nat) : mF mask bit n 0 = false := by simp [mF, mD, Nat.mod_one]
theorem mF_t {mask bit n i : Nat} (h : mask.testBit i = true) (hb : bit + i < 8 * n) : mF mask bit n (i + 1) = true := by
  unfold mF
  rw [decide_eq_true_eq, mD_succ, if_pos h]
  intro e
  have h1 := congrArg (fun x => x.testBit (bit + i)) e
  simp only [Nat.testBit_mod_two_pow, Nat.testBit_xor, one_shl, Nat.zero_testBit] at h1
  have h2 : (mD mask bit i).testBit (bit + i) = false := by
    unfold mD
    rw [Nat.testBit_shiftLeft, show bit + i - bit = i by omega, Nat.testBit_mod_two_pow]
    simp
  rw [h2] at h1
  simp [hb] at h1
theorem mF_far {mask bit n i : Nat} (hb : 8 * n ≤ bit + i) : mF mask bit n (i + 1) = mF mask bit n i := by
  unfold mF
  rw [mD_succ]
  split
  · have e : ∀ a : Nat, (a ^^^ 1 <<< (bit + i)) % 2 ^ (8 * n) = a % 2 ^ (8 * n) := fun a => by
      rw [Nat.xor_mod_two_pow, Nat.shiftLeft_eq, Nat.one_mul, Nat.mod_eq_zero_of_dvd (Nat.pow_dvd_pow 2 hb), Nat.xor_zero]
    rw [e]
  · rw [Nat.xor_zero]
theorem mF_f {mask bit n i : Nat} (h : mask.testBit i = false) : mF mask bit n (i + 1) = mF mask bit n i := by
  unfold mF
  rw [mD_succ, h]
  simp
theorem turn_add {x r : Nat} (hx : x < 256) (hr : r < 8) (h : x.testBit r = false) : x + 2 ^ r = x ^^^ (1 <<< r) ∧ x + 2 ^ r < 256 := by
  have : ∀ r : Fin 8, ∀ x : Fin 256, x.val.testBit r.val = false → x.val + 2 ^ r.val = x.val ^^^ (1 <<< r.val) ∧ x.val + 2 ^ r.val < 256 := by decide +kernel
  exact this ⟨r, hr⟩ ⟨x, hx⟩ h
theorem turn_sub {x r : Nat} (hx : x < 256) (hr : r < 8) (h : x.testBit r = true) : x = 2 ^ r + (x ^^^ (1 <<< r)) := by
  have : ∀ r : Fin 8, ∀ x : Fin 256, x.val.testBit r.val = true → x.val = 2 ^ r.val + (x.val ^^^ (1 <<< r.val)) := by decide +kernel
  exact this ⟨r, hr⟩ ⟨x, hx⟩ h

theorem bit_rn {q : List Nat} (m n : Nat) (h : m = q.length) (hq : isN q) (hn : n < 8 * m) : DFun Try.prog 63 [.slf 1 m (q.flatMap un8), .val (.int .i64 (n : Int))] [] (.val (.int .u32 ((sr (q.getD (n / 8) 0) (n % 8) % 2 : Nat) : Int))) [] := by
  subst h
  exact bit_r q n hq hn
theorem tb_of {x i : Nat} (h : sr x i % 2 = 1) : x.testBit i = true := by
  rw [bit_of_byte] at h
  cases e : x.testBit i with
  | true => rfl
  | false => rw [e] at h; cases h
theorem tb_no {x i : Nat} (h : ¬ sr x i % 2 = 1) : x.testBit i = false := by
  rw [bit_of_byte] at h
  cases e : x.testBit i with
  | true => rw [e] at h; exact absurd rfl h
  | false => rfl
theorem p2_lt {r : Nat} (h : r < 7) : 2 ^ r < 128 := Nat.lt_of_lt_of_le (Nat.pow_lt_pow_right (by decide) h) (by decide)
theorem mD_zero (mask bit : Nat) : mD mask bit 0 = 0 := by simp [mD, Nat.mod_one]
def qx (q : List Nat) (n : Nat) : Nat := q.getD (n / 8) 0
theorem qx_at {q : List Nat} {n : Nat} (h : n / 8 < q.length) : q[n / 8] = qx q n := by
  unfold qx
  rw [List.getD_eq_getElem?_getD, List.getElem?_eq_getElem h]
  rfl
theorem qx_lt {q : List Nat} (h : isN q) (n : Nat) : qx q n < 256 := by
  unfold qx
  by_cases e : n / 8 < q.length
  · rw [List.getD_eq_getElem?_getD, List.getElem?_eq_getElem e]
    exact h _ (List.getElem_mem e)
  · rw [List.getD_eq_getElem?_getD, List.getElem?_eq_none (by omega)]
    decide
theorem qx_sub {q : List Nat} (h : isN q) {n : Nat} (ht : (qx q n).testBit (n % 8) = true) : ((qx q n : Nat) : Int) - ((2 ^ (n % 8) : Nat) : Int) = ((qx q n ^^^ (1 <<< (n % 8)) : Nat) : Int) ∧ qx q n ^^^ (1 <<< (n % 8)) < 256 := by
  have h1 := turn_sub (qx_lt h n) (Nat.mod_lt n (by decide)) ht
  have h2 := qx_lt h n
  generalize qx q n ^^^ (1 <<< (n % 8)) = y at h1 ⊢
  generalize 2 ^ (n % 8) = z at h1 ⊢
  omega
theorem qx_add {q : List Nat} (h : isN q) {n : Nat} (ht : (qx q n).testBit (n % 8) = false) : ((qx q n : Nat) : Int) + ((2 ^ (n % 8) : Nat) : Int) = ((qx q n ^^^ (1 <<< (n % 8)) : Nat) : Int) ∧ qx q n ^^^ (1 <<< (n % 8)) < 256 := by
  have h1 := turn_add (qx_lt h n) (Nat.mod_lt n (by decide)) ht
  rw [← h1.1]
  exact ⟨rfl, h1.2⟩
theorem spl_two {mask bit i : Nat} {l : List Nat} (h : mask.testBit i = true) (hb : bit + i < 8 * l.length) : spl (mD mask bit (i + 1)) l = (spl (mD mask bit i) l).set ((bit + i) / 8) (qx (spl (mD mask bit i) l) (bit + i) ^^^ (1 <<< ((bit + i) % 8))) := by
  rw [mD_succ, if_pos h, spl_xor, spl_one (by rw [spl_len]; exact hb), qx_at (by rw [spl_len]; omega)]
theorem spl_same {mask bit i : Nat} {l : List Nat} (h : mask.testBit i = false ∨ 8 * l.length ≤ bit + i) : spl (mD mask bit (i + 1)) l = spl (mD mask bit i) l ∧ mF mask bit l.length (i + 1) = mF mask bit l.length i := by
  rcases h with h | h
  · exact ⟨by rw [mD_succ, h]; simp, mF_f h⟩
  · refine ⟨?_, mF_far h⟩
    rw [mD_succ]
    split
    · rw [spl_xor, spl_far (by rw [spl_len]; exact h)]
    · rw [Nat.xor_zero]
theorem mF_all {mask : Nat} (hm : mask < 2 ^ 32) (bit n : Nat) : mF mask bit n 32 = true ↔ ¬ ∀ k, k < n → ((mask <<< bit) >>> (8 * k)) % 256 = 0 := by
  unfold mF
  rw [mD_all hm, bytes_zero, decide_eq_true_eq]

set_option maxRecDepth 4000 in
set_option maxHeartbeats 1000000 in
theorem spoilr_out (l : List Nat) (bit : Int) (mask : Nat) (hl : l.length ≤ 1000000) (h : bit < 0 ∨ 8 * (l.length : Int) ≤ bit) : DFun Try.prog 50 [.slf 1 (l).length ((l).flatMap un8), .val (.int .i64 (bit : Int)), .val (.int .u32 (mask : Int))] [] (.tup [.val (.slice none 0 0), .val (.bool false)]) [] := by
  refine dcalls_go (N := 79) 0 (by kernel_rfl) Try.func50 rfl rfl rfl (by simp only [fr0, Nat.zero_add, Nat.reduceAdd]; exact rfl) rfl fun s0 hs0 => ?_
  refine dwp_len (t := 0) rfl fun hl0 hL0 => ?_
  refine dwp_seq ?_
  refine dwp_region ?_
  refine walk_r rfl rfl rfl (op_move (.inr rfl) (ev1 rfl)) ?_
  refine walk_r rfl rfl rfl (op_move (.inr rfl) (ev1 rfl)) ?_
  refine walk_nil ?_
  refine dwp_seq ?_
  refine dwp_seq ?_
  refine dwp_region ?_
  refine walk_r rfl rfl rfl (op_move (.inl rfl) (ev1 rfl)) ?_
  refine walk_r rfl rfl rfl (op_lss rfl (ev1 rfl) (ev1 rfl)) ?_
  refine walk_r rfl rfl rfl (op_move (.inl rfl) (ev1 rfl)) ?_
  refine walk_gr (gd_f rfl rfl rfl) rfl rfl rfl (op_move (.inl rfl) (ev1 rfl)) ?_
  refine walk_gr (gd_f rfl rfl rfl) rfl rfl rfl (op_move (.inl rfl) (ev1 rfl)) ?_
  refine walk_gr (gd_f rfl rfl rfl) rfl rfl rfl (op_len rfl sl36 (ev2 rfl)) ?_
  refine walk_gr (gd_f rfl rfl rfl) rfl rfl rfl (op_mul' rfl (ev1 rfl) (ev2 rfl) (fun hp => IntWalk.i64_in _ (by first | omega | (simp at hp; omega)))) ?_
  refine walk_gr (gd_f rfl rfl rfl) rfl rfl rfl (op_geq rfl (ev2 rfl) (ev2 rfl)) ?_
  refine walk_r rfl rfl rfl (op_or rfl (ev1 rfl) (ev3 rfl id)) ?_
  refine walk_nil ?_
  refine dwp_if_t rfl (by simp; omega) ?_
  refine dwp_seq ?_
  refine dwp_region ?_
  refine walk_r rfl rfl rfl (op_move (.inr rfl) (ev1 rfl)) ?_
  refine walk_r rfl rfl rfl (op_move (.inr rfl) (ev1 rfl)) ?_
  refine walk_nil ?_
  refine dwp_ret ?_
  refine kend0 (rs2 rfl (rv_t rfl) (rv_t rfl)) rfl ?_
  rfl

set_option maxRecDepth 4000 in
set_option maxHeartbeats 1000000 in
theorem spoilr_o (l : List Nat) (bit mask : Nat) (hm : mask < 2 ^ 32) (hb : bit < 8 * l.length) (hl : l.length ≤ 1000000) (hl2 : isN l) : DFun Try.prog 50 [.slf 1 (l).length ((l).flatMap un8), .val (.int .i64 (bit : Int)), .val (.int .u32 (mask : Int))] [] (.tup [.arr 0, .val (.bool (mF mask bit l.length 32))]) [.arr 5 1 l.length (((spl (mask <<< bit) l)).flatMap un8)] := by
  refine dcalls_go (N := 79) 0 (by kernel_rfl) Try.func50 rfl rfl rfl (by simp only [fr0, Nat.zero_add, Nat.reduceAdd]; exact rfl) rfl fun s0 hs0 => ?_
  refine dwp_len (t := 0) rfl fun hl0 hL0 => ?_
  refine dwp_seq ?_
  refine dwp_region ?_
  refine walk_r rfl rfl rfl (op_move (.inr rfl) (ev1 rfl)) ?_
  refine walk_r rfl rfl rfl (op_move (.inr rfl) (ev1 rfl)) ?_
  refine walk_nil ?_
  refine dwp_seq ?_
  refine dwp_seq ?_
  refine dwp_region ?_
  refine walk_r rfl rfl rfl (op_move (.inl rfl) (ev1 rfl)) ?_
  refine walk_r rfl rfl rfl (op_lss rfl (ev1 rfl) (ev1 rfl)) ?_
  refine walk_r rfl rfl rfl (op_move (.inl rfl) (ev1 rfl)) ?_
  refine walk_gr (gd_f rfl rfl rfl) rfl rfl rfl (op_move (.inl rfl) (ev1 rfl)) ?_
  refine walk_gr (gd_f rfl rfl rfl) rfl rfl rfl (op_move (.inl rfl) (ev1 rfl)) ?_
  refine walk_gr (gd_f rfl rfl rfl) rfl rfl rfl (op_len rfl sl36 (ev2 rfl)) ?_
  refine walk_gr (gd_f rfl rfl rfl) rfl rfl rfl (op_mul' rfl (ev1 rfl) (ev2 rfl) (fun hp => IntWalk.i64_in _ (by first | omega | (simp at hp; omega)))) ?_
  refine walk_gr (gd_f rfl rfl rfl) rfl rfl rfl (op_geq rfl (ev2 rfl) (ev2 rfl)) ?_
  refine walk_r rfl rfl rfl (op_or rfl (ev1 rfl) (ev3 rfl id)) ?_
  refine walk_nil ?_
  refine dwp_if_f rfl (by simp; omega) ?_
  refine dwp_skip ?_
  refine dwp_seq ?_
  refine dwp_holes 2 (by simp only [holes, List.cons_append, List.nil_append]; exact rfl) ?_
  refine dwp_region ?_
  refine walk_w rfl rfl rfl (op_bsa (ps := []) 0 rfl sl36 zr5 rfl vn rfl (by decide) (by decide) rfl) (by simp only [upd, List.set_cons_zero, List.set_cons_succ]; exact rfl) ?_
  refine walk_r rfl rfl rfl (op_move (.inl rfl) (ev1 rfl)) ?_
  refine walk_w rfl rfl rfl (op_app (j := 1) rfl sl36 zr5 rfl (ev1 rfl) (ev1 rfl) src_slf rfl rfl (fun _ => flat_oc (fun _ => rfl) _) (fun _ => ⟨by omega, by omega⟩)) (by simp only [upd, List.set_cons_zero, List.set_cons_succ]; exact rfl) ?_
  refine walk_r rfl rfl rfl (op_move (.inr rfl) (ev1 rfl)) ?_
  refine walk_nil ?_
  refine dwp_seq ?_
  refine dwp_region ?_
  refine walk_r rfl rfl rfl (op_move (.inr rfl) (ev1 rfl)) ?_
  refine walk_nil ?_
  refine dwp_seq ?_
  refine dwp_seq ?_
  refine dwp_region ?_
  refine walk_r rfl rfl rfl (op_move (.inl rfl) (ev1 rfl)) ?_
  refine walk_nil ?_
  refine dwp_block ?_
  refine dwp_loopS ⟨hs0, rfl⟩ (α := Nat) (fun i => [(2, .val (.int .u32 ((sr mask i : Nat) : Int))), (9, .val (.bool (mF mask bit l.length i))), (25, .val (.int .i64 (i : Int)))]) [(0, _), (1, _), (8, _)] (fun i => [(1, .arr 5 1 l.length (((spl (mD mask bit i) l)).flatMap un8))]) [_, .hole] (fun i => i ≤ 32) (fun i => 32 - i) 0 [0, 1] (by simp) rfl ⟨rfl, rfl, rfl, trivial⟩ ⟨rfl, by rw [mF_zero]; rfl, rfl, trivial⟩ ⟨rfl, by rw [mD_zero, spl_zero]; simp [vwB], trivial⟩ ?_
  intro i hx_
  simp only [upd, List.set_cons_zero, List.set_cons_succ, List.cons_append, List.nil_append]
  have hi := hx_
  have hsm := sr_lt hm i
  have hqn := spl_lt (D := mD mask bit i) hl2
  have hql := spl_len (mD mask bit i) l
  have hbi : ((bit : Int) + (i : Int)) = ((bit + i : Nat) : Int) := rfl
  refine dwp_seq ?_
  refine dwp_region ?_
  refine walk_r rfl rfl rfl (op_lss rfl (ev1 rfl) (ev1 rfl)) ?_
  refine walk_nil ?_
  refine dwp_seq ?_
  refine dwp_cond rfl (fun c2 => ?_) (fun c2 => ?_)
  · try simp only [decide_eq_true_eq, decide_eq_false_iff_not, beq_iff_eq, bne_iff_ne, beq_eq_false_iff_ne, bne_eq_false_iff_eq, Bool.not_eq_true', Bool.not_eq_false', Bool.and_eq_true, Bool.or_eq_true, Bool.or_eq_false_iff, ne_eq, Decidable.not_not, Int.not_lt, Int.not_le] at c2
    refine dwp_skip ?_
    refine dwp_seq ?_
    refine dwp_block ?_
    refine dwp_seq ?_
    refine dwp_region ?_
    refine walk_r rfl rfl rfl (op_move (.inl rfl) (ev1 rfl)) ?_
    refine walk_r rfl rfl rfl (op_move (.inr rfl) (ev1 rfl)) ?_
    refine walk_nil ?_
    refine dwp_seq ?_
    refine dwp_region ?_
    refine walk_r rfl rfl rfl (op_move (.inl rfl) (ev1 rfl)) ?_
    refine walk_r rfl rfl rfl (op_move (.inl rfl) (ev1 rfl)) ?_
    refine walk_r rfl rfl rfl (op_add' rfl (ev1 rfl) (ev1 rfl) (fun _ => IntWalk.i64_in _ (by omega))) ?_
    refine walk_r rfl rfl rfl (op_move (.inr rfl) (ev1 rfl)) ?_
    refine walk_nil ?_
    refine dwp_seq ?_
    refine dwp_seq ?_
    rw [hbi]
    refine dwp_region ?_
    refine walk_r rfl rfl rfl (op_move (.inl rfl) (ev1 rfl)) ?_
    refine walk_r rfl rfl rfl (op_rem' rfl (ev1 rfl) (ev1 rfl) (fun _ => ⟨by omega, by omega⟩)) ?_
    refine walk_r rfl rfl rfl (op_eql rfl (ev1 rfl) (ev1 rfl)) ?_
    refine walk_r rfl rfl rfl (op_move (.inl rfl) (ev1 rfl)) ?_
    refine walk_gr (gd_t rfl rfl rfl) rfl rfl rfl (op_move (.inl rfl) (ev1 rfl)) ?_
    refine walk_gr (gd_t rfl rfl rfl) rfl rfl rfl (op_move (.inl rfl) (ev1 rfl)) ?_
    refine walk_gr (gd_t rfl rfl rfl) rfl rfl rfl (op_len rfl sl36 (ev2 rfl)) ?_
    refine walk_gr (gd_t rfl rfl rfl) rfl rfl rfl (op_mul' rfl (ev1 rfl) (ev2 rfl) (fun hp => IntWalk.i64_in _ (by first | omega | (simp at hp; omega)))) ?_
    refine walk_gr (gd_t rfl rfl rfl) rfl rfl rfl (op_lss rfl (ev2 rfl) (ev2 rfl)) ?_
    refine walk_r rfl rfl rfl (op_and rfl (ev1 rfl) (ev3 rfl id)) ?_
    refine walk_nil ?_
    refine dwp_cond rfl (fun hc => ?_) (fun hc => ?_)
    · rw [Bool.and_eq_true] at hc
      have hc1 : mask.testBit i = true := tb_of (by have := hc.1; simp at this; omega)
      have hc2 : bit + i < 8 * l.length := by have := of_decide_eq_true hc.2; omega
      refine dwp_seq ?_
      refine dwp_region ?_
      refine walk_r rfl rfl rfl (op_move (.inr rfl) (ev1 rfl)) ?_
      refine walk_nil ?_
      refine dwp_seq ?_
      refine dwp_seq ?_
      refine dwp_region ?_
      refine walk_r rfl rfl rfl (op_move (.inl rfl) (ev1 rfl)) ?_
      refine walk_r rfl rfl rfl (op_rem' rfl (ev1 rfl) (ev1 rfl) (fun _ => ⟨by omega, by omega⟩)) ?_
      refine walk_r rfl rfl rfl (op_move (.inl rfl) (ev1 rfl)) ?_
      refine walk_nil ?_
      refine dwp_block ?_
      refine dwp_loopS ⟨hs0, rfl⟩ (α := Nat) (fun r => [(12, .val (.int .u8 ((2 ^ r : Nat) : Int))), (43, .val (.int .i64 (r : Int)))]) [(0, _), (1, _), (2, _), (8, _), (11, _), (25, _), (42, _)] (fun r => []) [_, _] (fun r => r ≤ (bit + i) % 8) (fun r => 8 - r) 0 [0, 1] (by simp) rfl ⟨rfl, rfl, rfl, rfl, rfl, rfl, rfl, trivial⟩ ⟨rfl, rfl, trivial⟩ ⟨rfl, rfl, trivial⟩ ?_
      intro r hx_
      simp only [upd, List.set_cons_zero, List.set_cons_succ, List.cons_append, List.nil_append]
      have hr := hx_
      refine dwp_seq ?_
      refine dwp_region ?_
      refine walk_r rfl rfl rfl (op_lss rfl (ev1 rfl) (ev1 rfl)) ?_
      refine walk_nil ?_
      refine dwp_seq ?_
      refine dwp_cond rfl (fun c4 => ?_) (fun c4 => ?_)
      · try simp only [decide_eq_true_eq, decide_eq_false_iff_not, beq_iff_eq, bne_iff_ne, beq_eq_false_iff_ne, bne_eq_false_iff_eq, Bool.not_eq_true', Bool.not_eq_false', Bool.and_eq_true, Bool.or_eq_true, Bool.or_eq_false_iff, ne_eq, Decidable.not_not, Int.not_lt, Int.not_le] at c4
        refine dwp_skip ?_
        refine dwp_seq ?_
        refine dwp_block ?_
        refine dwp_region ?_
        refine walk_r rfl rfl rfl (op_move (.inl rfl) (ev1 rfl)) ?_
        refine walk_r rfl rfl rfl (op_mul' rfl (ev1 rfl) (ev1 rfl) (fun _ => IntWalk.u8_in _ (by have h1 := p2_lt (show r < 7 by omega); generalize 2 ^ r = z at h1 ⊢; omega))) ?_
        refine walk_r rfl rfl rfl (op_move (.inr rfl) (ev1 rfl)) ?_
        refine walk_nil ?_
        refine dwp_region ?_
        refine walk_r rfl rfl rfl (op_add' rfl (ev1 rfl) (ev1 rfl) (fun _ => IntWalk.i64_in _ (by omega))) ?_
        refine walk_r rfl rfl rfl (op_move (.inl rfl) (ev1 rfl)) ?_
        refine walk_nil ?_
        refine ⟨r + 1, [0, 1], by omega, by simp only []; omega, rfl, ⟨congrArg (fun z => some (D.val (Value.int .u8 z))) (by rw [Nat.pow_succ]; omega), rfl, rfl, rfl, rfl, rfl, rfl, rfl, rfl, trivial⟩, ⟨rfl, rfl, trivial⟩⟩
      · try simp only [decide_eq_true_eq, decide_eq_false_iff_not, beq_iff_eq, bne_iff_ne, beq_eq_false_iff_ne, bne_eq_false_iff_eq, Bool.not_eq_true', Bool.not_eq_false', Bool.and_eq_true, Bool.or_eq_true, Bool.or_eq_false_iff, ne_eq, Decidable.not_not, Int.not_lt, Int.not_le] at c4
        refine dwp_exit ?_
        refine dwp_seq ?_
        refine dwp_seq ?_
        obtain rfl : r = (bit + i) % 8 := by omega
        refine dwp_region ?_
        refine walk_r rfl rfl rfl (op_move (.inl rfl) (ev1 rfl)) ?_
        refine walk_r rfl rfl rfl (op_move (.inl rfl) (ev1 rfl)) ?_
        refine walk_r rfl rfl rfl (dop_call [] [1] [] rfl (ev1 rfl) (ec (ev1 rfl) (ec (ev1 rfl) en)) rfl rfl (bit_rn l.length (bit + i) hql.symm hqn hc2) rfl rfl rfl rfl rfl rfl) ?_
        refine walk_r rfl rfl rfl (op_eql rfl (ev1 rfl) (ev1 rfl)) ?_
        refine walk_nil ?_
        refine dwp_cond rfl (fun hd => ?_) (fun hd => ?_)
        · have hpl : (bit + i) / 8 < (spl (mD mask bit i) l).length := by omega
          have hqe := qx_at (n := bit + i) hpl
          have hqlt := qx_lt hqn (bit + i)
          have hsb := qx_sub hqn (n := bit + i) (tb_of (by have := beq_iff_eq.1 hd; unfold qx; omega))
          refine dwp_region ?_
          refine walk_r rfl rfl rfl (op_move (.inl rfl) (ev1 rfl)) ?_
          refine walk_r rfl rfl rfl (op_move (.inl rfl) (ev1 rfl)) ?_
          refine walk_r rfl rfl rfl (op_quo' rfl (ev1 rfl) (ev1 rfl) (fun _ => ⟨by omega, by omega, IntWalk.i64_in _ (by omega)⟩)) ?_
          refine walk_r rfl rfl rfl (op_move (.inl rfl) (ev1 rfl)) ?_
          refine walk_r rfl rfl rfl (op_move (.inl rfl) (ev1 rfl)) ?_
          refine walk_r rfl rfl rfl (op_quo' rfl (ev1 rfl) (ev1 rfl) (fun _ => ⟨by omega, by omega, IntWalk.i64_in _ (by omega)⟩)) ?_
          refine walk_r rfl rfl rfl (op_ixar (j := ((bit + i) / 8)) rfl sl36 (ev1 rfl) (ev1 rfl) rfl (fun _ => by first | rfl | omega) (fun _ => by omega)) ?_
          refine walk_r rfl rfl rfl (op_lda1 rfl tb5 (ev1 rfl) rfl (fun _ => rfl) (by omega) rfl) ?_
          refine walk_r rfl rfl rfl (op_move (.inl rfl) (ev1 rfl)) ?_
          refine walk_r rfl rfl rfl ((by rw [← hsb.1, ← hqe]; exact op_sub' rfl (ev1 rfl) (ev1 rfl) (fun _ => IntWalk.u8_in _ (by rw [hqe, hsb.1]; omega)) : DOp _ _ _ _ _ _ (.val (.int .u8 (((qx (spl (mD mask bit i) l) (bit + i) ^^^ (1 <<< ((bit + i) % 8))) : Nat) : Int))) _)) ?_
          refine walk_r rfl rfl rfl (op_ixar (j := ((bit + i) / 8)) rfl sl36 (ev1 rfl) (ev1 rfl) rfl (fun _ => by first | rfl | omega) (fun _ => by omega)) ?_
          refine walk_s rfl rfl (op_staf (l := (spl (mD mask bit i) l)) (en := un8) (j := ((bit + i) / 8)) (c := 0) (0) ((qx (spl (mD mask bit i) l) (bit + i) ^^^ (1 <<< ((bit + i) % 8)))) rfl tb5 (ev1 rfl) (ev1 rfl) rfl rfl rfl rfl (fun _ => rfl) (fun _ => by omega) (Nat.le_of_ble_eq_true rfl) rfl) (by simp only [upd, List.set_cons_zero, List.set_cons_succ]; exact rfl) ?_
          refine walk_nil ?_
          refine dwp_region ?_
          refine walk_r rfl rfl rfl (op_move (.inr rfl) (ev1 rfl)) ?_
          refine walk_nil ?_
          refine dwp_region ?_
          refine walk_r rfl rfl rfl (op_move (.inl rfl) (ev1 rfl)) ?_
          refine walk_r rfl rfl rfl (op_quo' rfl (ev1 rfl) (ev1 rfl) (fun _ => ⟨by omega, by omega, IntWalk.u32_in _ (by omega)⟩)) ?_
          refine walk_r rfl rfl rfl (op_move (.inr rfl) (ev1 rfl)) ?_
          refine walk_nil ?_
          refine dwp_region ?_
          refine walk_r rfl rfl rfl (op_add' rfl (ev1 rfl) (ev1 rfl) (fun _ => IntWalk.i64_in _ (by omega))) ?_
          refine walk_r rfl rfl rfl (op_move (.inl rfl) (ev1 rfl)) ?_
          refine walk_nil ?_
          refine ⟨i + 1, [0, 1], by omega, by simp only []; omega, rfl, ⟨congrArg (fun z => some (D.val (Value.int .u32 z))) (shr_succ mask i), by rw [mF_t hc1 hc2]; rfl, rfl, rfl, rfl, rfl, trivial⟩, ⟨rfl, by rw [spl_two hc1 hc2]; rfl, trivial⟩⟩
        · have hpl : (bit + i) / 8 < (spl (mD mask bit i) l).length := by omega
          have hqe := qx_at (n := bit + i) hpl
          have hqlt := qx_lt hqn (bit + i)
          have hsb := qx_add hqn (n := bit + i) (tb_no (by have := beq_eq_false_iff_ne.1 hd; unfold qx; omega))
          refine dwp_region ?_
          refine walk_r rfl rfl rfl (op_move (.inl rfl) (ev1 rfl)) ?_
          refine walk_r rfl rfl rfl (op_move (.inl rfl) (ev1 rfl)) ?_
          refine walk_r rfl rfl rfl (op_quo' rfl (ev1 rfl) (ev1 rfl) (fun _ => ⟨by omega, by omega, IntWalk.i64_in _ (by omega)⟩)) ?_
          refine walk_r rfl rfl rfl (op_move (.inl rfl) (ev1 rfl)) ?_
          refine walk_r rfl rfl rfl (op_move (.inl rfl) (ev1 rfl)) ?_
          refine walk_r rfl rfl rfl (op_quo' rfl (ev1 rfl) (ev1 rfl) (fun _ => ⟨by omega, by omega, IntWalk.i64_in _ (by omega)⟩)) ?_
          refine walk_r rfl rfl rfl (op_ixar (j := ((bit + i) / 8)) rfl sl36 (ev1 rfl) (ev1 rfl) rfl (fun _ => by first | rfl | omega) (fun _ => by omega)) ?_
          refine walk_r rfl rfl rfl (op_lda1 rfl tb5 (ev1 rfl) rfl (fun _ => rfl) (by omega) rfl) ?_
          refine walk_r rfl rfl rfl (op_move (.inl rfl) (ev1 rfl)) ?_
          refine walk_r rfl rfl rfl ((by rw [← hsb.1, ← hqe]; exact op_add' rfl (ev1 rfl) (ev1 rfl) (fun _ => IntWalk.u8_in _ (by rw [hqe, hsb.1]; omega)) : DOp _ _ _ _ _ _ (.val (.int .u8 (((qx (spl (mD mask bit i) l) (bit + i) ^^^ (1 <<< ((bit + i) % 8))) : Nat) : Int))) _)) ?_
          refine walk_r rfl rfl rfl (op_ixar (j := ((bit + i) / 8)) rfl sl36 (ev1 rfl) (ev1 rfl) rfl (fun _ => by first | rfl | omega) (fun _ => by omega)) ?_
          refine walk_s rfl rfl (op_staf (l := (spl (mD mask bit i) l)) (en := un8) (j := ((bit + i) / 8)) (c := 0) (0) ((qx (spl (mD mask bit i) l) (bit + i) ^^^ (1 <<< ((bit + i) % 8)))) rfl tb5 (ev1 rfl) (ev1 rfl) rfl rfl rfl rfl (fun _ => rfl) (fun _ => by omega) (Nat.le_of_ble_eq_true rfl) rfl) (by simp only [upd, List.set_cons_zero, List.set_cons_succ]; exact rfl) ?_
          refine walk_nil ?_
          refine dwp_region ?_
          refine walk_r rfl rfl rfl (op_move (.inr rfl) (ev1 rfl)) ?_
          refine walk_nil ?_
          refine dwp_region ?_
          refine walk_r rfl rfl rfl (op_move (.inl rfl) (ev1 rfl)) ?_
          refine walk_r rfl rfl rfl (op_quo' rfl (ev1 rfl) (ev1 rfl) (fun _ => ⟨by omega, by omega, IntWalk.u32_in _ (by omega)⟩)) ?_
          refine walk_r rfl rfl rfl (op_move (.inr rfl) (ev1 rfl)) ?_
          refine walk_nil ?_
          refine dwp_region ?_
          refine walk_r rfl rfl rfl (op_add' rfl (ev1 rfl) (ev1 rfl) (fun _ => IntWalk.i64_in _ (by omega))) ?_
          refine walk_r rfl rfl rfl (op_move (.inl rfl) (ev1 rfl)) ?_
          refine walk_nil ?_
          refine ⟨i + 1, [0, 1], by omega, by simp only []; omega, rfl, ⟨congrArg (fun z => some (D.val (Value.int .u32 z))) (shr_succ mask i), by rw [mF_t hc1 hc2]; rfl, rfl, rfl, rfl, rfl, trivial⟩, ⟨rfl, by rw [spl_two hc1 hc2]; rfl, trivial⟩⟩
    · have hc3 : mask.testBit i = false ∨ 8 * l.length ≤ bit + i := by
        rw [Bool.and_eq_false_iff] at hc
        rcases hc with hc | hc
        · exact .inl (tb_no (by simp at hc; omega))
        · exact .inr (by have := of_decide_eq_false hc; omega)
      have hc4 := spl_same hc3
      refine dwp_skip ?_
      refine dwp_region ?_
      refine walk_r rfl rfl rfl (op_move (.inl rfl) (ev1 rfl)) ?_
      refine walk_r rfl rfl rfl (op_quo' rfl (ev1 rfl) (ev1 rfl) (fun _ => ⟨by omega, by omega, IntWalk.u32_in _ (by omega)⟩)) ?_
      refine walk_r rfl rfl rfl (op_move (.inr rfl) (ev1 rfl)) ?_
      refine walk_nil ?_
      refine dwp_region ?_
      refine walk_r rfl rfl rfl (op_add' rfl (ev1 rfl) (ev1 rfl) (fun _ => IntWalk.i64_in _ (by omega))) ?_
      refine walk_r rfl rfl rfl (op_move (.inl rfl) (ev1 rfl)) ?_
      refine walk_nil ?_
      refine ⟨i + 1, [0, 1], by omega, by simp only []; omega, rfl, ⟨congrArg (fun z => some (D.val (Value.int .u32 z))) (shr_succ mask i), by rw [hc4.2]; rfl, rfl, rfl, rfl, rfl, trivial⟩, ⟨rfl, by rw [hc4.1]; rfl, trivial⟩⟩
  · try simp only [decide_eq_true_eq, decide_eq_false_iff_not, beq_iff_eq, bne_iff_ne, beq_eq_false_iff_ne, bne_eq_false_iff_eq, Bool.not_eq_true', Bool.not_eq_false', Bool.and_eq_true, Bool.or_eq_true, Bool.or_eq_false_iff, ne_eq, Decidable.not_not, Int.not_lt, Int.not_le] at c2
    refine dwp_exit ?_
    refine dwp_seq ?_
    obtain rfl : i = 32 := by omega
    rw [mD_all hm]
    refine dwp_region ?_
    refine walk_r rfl rfl rfl (op_move (.inl rfl) (ev1 rfl)) ?_
    refine walk_r rfl rfl rfl (op_move (.inl rfl) (ev1 rfl)) ?_
    refine walk_r rfl rfl rfl (op_move (.inr rfl) (ev1 rfl)) ?_
    refine walk_r rfl rfl rfl (op_move (.inr rfl) (ev1 rfl)) ?_
    refine walk_nil ?_
    refine dwp_ret ?_
    refine kend [1] (rs2 rfl (rv_t rfl) (rv_t rfl)) rfl rfl ?_ ⟨rfl, trivial⟩
    rfl

theorem equal_n {l r : List Nat} (n m : Nat) (hn : n = l.length) (hm : m = r.length) : DFun Try.prog 32 [.slf 1 n (l.flatMap un8), .slf 1 m (r.flatMap un8)] [] (.val (.bool (decide (l = r)))) [] := by
  subst hn hm
  exact equalN l r
theorem wrap1 (x : Nat) : IntKind.u8.wrap ((x : Int) + 1) = (((x + 1) % 256 : Nat) : Int) := by rw [IntKind.wrap_u8]; omega
theorem mF_no {mask : Nat} (hm : mask < 2 ^ 32) {bit n : Nat} (h : ∀ k, k < n → ((mask <<< bit) >>> (8 * k)) % 256 = 0) : mF mask bit n 32 = false := by
  cases e : mF mask bit n 32 with
  | false => rfl
  | true => exact absurd h ((mF_all hm bit n).1 e)

end Go.Proofs.Ytgomklemldldiaa
