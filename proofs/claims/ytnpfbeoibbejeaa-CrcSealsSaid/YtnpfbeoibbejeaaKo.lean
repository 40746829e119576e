/- the law of parts, walked -/
import Derived.Test.YtnpfbeoibbejeaaKn
import Derived.Test.YtnpfbeoibbejeaaLop
namespace Go.Proofs.Ytnpfbeoibbejeaa
set_option linter.unusedVariables false
set_option linter.unusedSimpArgs false
open Go.RowKit

theorem more_nil (s : Nat) : moreC s [] = s := by unfold moreC; rw [fed, trn_trn]
theorem fed_inj : ∀ (l : List Nat) {r r' : Nat}, r < 2 ^ 32 → r' < 2 ^ 32 → isN l → fed r l = fed r' l → r = r'
  | [], _, _, _, _, _, h => h
  | x :: l, r, r', hr, hr', hl, h => by
    have hx := byte_lt (hl x (List.mem_cons_self ..))
    have h1 := fed_inj l (Zs_lt 8 (Nat.xor_lt_two_pow hr hx)) (Zs_lt 8 (Nat.xor_lt_two_pow hr' hx)) (fun y hy => hl y (List.mem_cons_of_mem _ hy)) h
    have h2 := Zs_inj 8 (Nat.xor_lt_two_pow hr hx) (Nat.xor_lt_two_pow hr' hx) h1
    rw [← xor_xor r x, h2, xor_xor]
theorem set_more {l : List Nat} {a b : Nat} (hl : isN l) (hb : b < 256) (ha : a < l.length) : moreC 0 (l.set a b) = moreC 0 l ↔ b = l[a] := by
  have e1 : l.set a b = l.take a ++ b :: l.drop (a + 1) := by rw [List.set_eq_take_append_cons_drop, if_pos ha]
  have e2 : l.take a ++ l[a] :: l.drop (a + 1) = l := by rw [List.getElem_cons_drop, List.take_append_drop]
  constructor
  · intro h
    unfold moreC at h
    have h := congrArg trn h
    rw [trn_trn, trn_trn] at h
    rw [e1] at h
    have h3 : fed (trn 0) (l.take a ++ b :: l.drop (a + 1)) = fed (trn 0) (l.take a ++ l[a] :: l.drop (a + 1)) := by rw [e2]; exact h
    rw [fed_app, fed_app, fed, fed] at h3
    have ht : isN (l.take a) := fun x hx => hl x (List.mem_of_mem_take hx)
    have hd : isN (l.drop (a + 1)) := fun x hx => hl x (List.mem_of_mem_drop hx)
    have hf := fed_lt (l.take a) (trn_lt (show 0 < 2 ^ 32 by decide)) ht
    have hla : l[a] < 256 := hl _ (List.getElem_mem ha)
    have h4 := fed_inj _ (Zs_lt 8 (Nat.xor_lt_two_pow hf (byte_lt hb))) (Zs_lt 8 (Nat.xor_lt_two_pow hf (byte_lt hla))) hd h3
    have h5 := Zs_inj 8 (Nat.xor_lt_two_pow hf (byte_lt hb)) (Nat.xor_lt_two_pow hf (byte_lt hla)) h4
    rw [← xor_xor' (fed (trn 0) (l.take a)) b, h5, xor_xor']
  · intro h
    rw [h, List.set_getElem_self]
theorem set_lt {l : List Nat} {a b : Nat} (h : isN l) (hb : b < 256) : isN (l.set a b) := fun x hx => by
  rcases List.mem_or_eq_of_mem_set hx with h1 | h1
  · exact h x h1
  · rw [h1]; exact hb
theorem place_of (p : Int) {n : Nat} (h : 0 < n) : ∃ a : Nat, a < n ∧ IntKind.u64.wrap p % (n : Int) = (a : Int) := by
  have h1 := Int.emod_nonneg (IntKind.u64.wrap p) (show (n : Int) ≠ 0 by omega)
  have h2 := Int.emod_lt_of_pos (IntKind.u64.wrap p) (show (0 : Int) < (n : Int) by omega)
  exact ⟨(IntKind.u64.wrap p % (n : Int)).toNat, by omega, by omega⟩
theorem sub_N {l : List Nat} (h : isN l) (o n : Nat) : isN ((l.drop o).take n) := fun x hx => h x (List.mem_of_mem_drop (List.mem_of_mem_take hx))
theorem rn_sub {l : List Nat} {o n : Nat} (h : o + n ≤ l.length) : rN ((l.drop o).take n) = .slf 1 n (((l.flatMap un8).drop (o * 1)).take (n * 1)) := by
  have e : ∀ l : List Nat, l.flatMap un8 = l.map fun x : Nat => Value.int .u8 (x : Int) := fun l => by
    induction l with
    | nil => rfl
    | cons x l ih => rw [List.flatMap_cons, ih]; rfl
  have h1 : ((l.drop o).take n).length = n := by rw [List.length_take, List.length_drop]; omega
  rw [rN, h1, e, e, List.map_take, List.map_drop, Nat.mul_one, Nat.mul_one]
theorem sum_n {l : List Nat} (n : Nat) (h : n = l.length) (hn : isN l) (hl : l.length ≤ 1000000) : DFun Try.prog 11 [.slm 1 1 [.slf 1 n (l.flatMap un8)]] [] (.val (.int .u32 (moreC 0 l : Nat))) [] := by
  subst h
  exact sum1_c l hn hl
theorem sum_own {l : List Nat} (o n : Nat) (h : o + n ≤ l.length) (hn : isN l) (hl : l.length ≤ 1000000) : DFun Try.prog 11 [.slm 1 1 [.slf 1 n (((l.flatMap un8).drop (o * 1)).take (n * 1))]] [] (.val (.int .u32 (moreC 0 ((l.drop o).take n) : Nat))) [] := by
  rw [← rn_sub h]
  exact sum1_c _ (sub_N hn o n) (by rw [List.length_take, List.length_drop]; omega)
theorem more_own {l : List Nat} (s : Nat) (hs : s < 2 ^ 32) (o n : Nat) (h : o + n ≤ l.length) (hn : isN l) (hl : l.length ≤ 1000000) : DFun Try.prog 14 [.val (.int .u32 (s : Int)), .slf 1 n (((l.flatMap un8).drop (o * 1)).take (n * 1))] [] (.val (.int .u32 (moreC s ((l.drop o).take n) : Nat))) [] := by
  rw [← rn_sub h]
  exact more_c s hs _ (sub_N hn o n) (by rw [List.length_take, List.length_drop]; omega)
theorem sum_two {l : List Nat} (o n o' n' : Nat) (h : o + n ≤ l.length) (h' : o' + n' ≤ l.length) (hn : isN l) (hl : l.length ≤ 1000000) : DFun Try.prog 11 [.slm 1 2 [.slf 1 n (((l.flatMap un8).drop (o * 1)).take (n * 1)), .slf 1 n' (((l.flatMap un8).drop (o' * 1)).take (n' * 1))]] [] (.val (.int .u32 (moreC 0 ((l.drop o).take n ++ (l.drop o').take n') : Nat))) [] := by
  rw [← rn_sub h, ← rn_sub h']
  have h1 := sum_c [(l.drop o).take n, (l.drop o').take n'] (by simp only [List.mem_cons, List.not_mem_nil, or_false]; rintro p (rfl | rfl) <;> exact sub_N hn _ _) (by simp) (by simp only [List.mem_cons, List.not_mem_nil, or_false]; rintro p (rfl | rfl) <;> rw [List.length_take, List.length_drop] <;> omega)
  rw [show [(l.drop o).take n, (l.drop o').take n'].flatten = (l.drop o).take n ++ (l.drop o').take n' by simp] at h1
  exact h1
theorem cut_more {l : List Nat} {a : Nat} (ha : a ≤ l.length) : moreC (moreC 0 ((l.drop 0).take a)) ((l.drop a).take (l.length - a)) = moreC 0 l ∧ moreC 0 ((l.drop 0).take a ++ (l.drop a).take (l.length - a)) = moreC 0 l := by
  have e : (l.drop 0).take a ++ (l.drop a).take (l.length - a) = l := by
    have e2 : (l.drop a).take (l.length - a) = l.drop a := List.take_of_length_le (by rw [List.length_drop]; omega)
    rw [List.drop_zero, e2, List.take_append_drop]
  exact ⟨by rw [← more_app, e], by rw [e]⟩

set_option maxRecDepth 4000 in
set_option maxHeartbeats 1000000 in
theorem few_a (l : List Nat) : DFun Try.prog 10 [.slf 1 (l).length ((l).flatMap un8)] [] (.arr 0) [.arr 5 1 (l.take (min l.length 400)).length (((l.take (min l.length 400))).flatMap un8)] := by
  refine dcalls_go (N := 9) 0 (by kernel_rfl) Try.func10 rfl rfl rfl (by simp only [fr0, Nat.zero_add, Nat.reduceAdd]; exact rfl) rfl fun s0 hs0 => ?_
  refine dwp_len (t := 0) rfl fun hl0 hL0 => ?_
  refine dwp_seq ?_
  refine dwp_region ?_
  refine walk_r rfl rfl rfl (op_move (.inr rfl) (ev1 rfl)) ?_
  refine walk_nil ?_
  refine dwp_seq ?_
  refine dwp_holes 1 (by simp only [holes, List.cons_append, List.nil_append]; exact rfl) ?_
  refine dwp_region ?_
  refine walk_r rfl rfl rfl (op_move (.inl rfl) (ev1 rfl)) ?_
  refine walk_r rfl rfl rfl (op_move (.inl rfl) (ev1 rfl)) ?_
  refine walk_r rfl rfl rfl (op_len rfl sl25 (ev1 rfl)) ?_
  refine walk_r rfl rfl rfl (op_min rfl (ev1 rfl) (ev1 rfl)) ?_
  refine walk_r rfl rfl rfl (op_sltk (j := min l.length 400) rfl sl25 (ev1 rfl) (bd_some (ev1 rfl)) (fun _ => by omega) (fun _ => by omega) (fun _ => rfl)) ?_
  refine walk_w rfl rfl rfl (dop_call [] [] [0] rfl (ev1 rfl) (ec (ev1 rfl) en) rfl rfl (cloneN _ (by rw [List.length_take]; omega)) rfl rfl rfl rfl rfl rfl) (by simp only [upd, List.set_cons_zero, List.set_cons_succ]; exact rfl) ?_
  refine walk_r rfl rfl rfl (op_move (.inr rfl) (ev1 rfl)) ?_
  refine walk_nil ?_
  refine dwp_ret ?_
  refine kend [0] (rs1 rfl (rv_t rfl)) rfl rfl ?_ ⟨rfl, trivial⟩
  rfl

set_option maxRecDepth 4000 in
set_option maxHeartbeats 1000000 in
theorem parts_d (l : List Nat) (p : Int) (b : Nat) (hl : isN l) (hb : b < 256) : DFun Try.prog 7 [.slf 1 (l).length ((l).flatMap un8), .val (.int .i64 p), .val (.int .u8 (b : Int))] [] (.val (.bool true)) [] := by
  refine dcalls_go (N := 76) 0 (by kernel_rfl) Try.func7 rfl rfl rfl (by simp only [fr0, Nat.zero_add, Nat.reduceAdd]; exact rfl) rfl fun s0 hs0 => ?_
  refine dwp_len (t := 0) rfl fun hl0 hL0 => ?_
  refine dwp_seq ?_
  have hkn := few_lt hl
  have hkl := few_len l
  have hsm := more_lt hkn (show 0 < 2 ^ 32 by decide)
  have hwr : 0 ≤ IntKind.u64.wrap p := by rw [IntKind.wrap_u64]; omega
  refine dwp_region ?_
  refine walk_r rfl rfl rfl (op_move (.inr rfl) (ev1 rfl)) ?_
  refine walk_nil ?_
  refine dwp_seq ?_
  refine dwp_seq ?_
  refine dwp_region ?_
  refine walk_r rfl rfl rfl (dop_call [] [] [] rfl (ev1 rfl) en rfl rfl (wakes_d) rfl rfl rfl rfl rfl rfl) ?_
  refine walk_r rfl rfl rfl (op_not rfl (ev1 rfl)) ?_
  refine walk_nil ?_
  refine dwp_if_f rfl (rfl) ?_
  refine dwp_skip ?_
  refine dwp_seq ?_
  refine dwp_holes 1 (by simp only [holes, List.cons_append, List.nil_append]; exact rfl) ?_
  refine dwp_region ?_
  refine walk_r rfl rfl rfl (op_move (.inl rfl) (ev1 rfl)) ?_
  refine walk_w rfl rfl rfl (dop_call [] [] [0] rfl (ev1 rfl) (ec (ev1 rfl) en) rfl rfl (few_a l) rfl rfl rfl rfl rfl rfl) (by simp only [upd, List.set_cons_zero, List.set_cons_succ]; exact rfl) ?_
  refine walk_r rfl rfl rfl (op_move (.inr rfl) (ev1 rfl)) ?_
  refine walk_nil ?_
  refine dwp_seq ?_
  refine dwp_seq ?_
  refine dwp_region ?_
  refine walk_r rfl rfl rfl (op_move (.inl rfl) (ev1 rfl)) ?_
  refine walk_r rfl rfl rfl (op_lena rfl sl25 (ev1 rfl) rfl) ?_
  refine walk_r rfl rfl rfl (op_eql rfl (ev1 rfl) (ev1 rfl)) ?_
  refine walk_nil ?_
  refine dwp_cond rfl (fun hz0 => ?_) (fun hz0 => ?_)
  · have hz : (l.take (min l.length 400)) = [] := List.length_eq_zero_iff.1 (by have := of_decide_eq_true hz0; omega)
    refine dwp_seq ?_
    refine dwp_holes 1 (by simp only [holes, List.cons_append, List.nil_append]; exact rfl) ?_
    refine dwp_region ?_
    refine walk_r rfl rfl rfl (op_move (.inl rfl) (ev1 rfl)) ?_
    refine walk_w rfl rfl rfl (op_bsx (ps := [(0, .tmp 17)]) 1 (fun s d v hd hr => by simp only [List.mem_cons, List.not_mem_nil, or_false] at hd; subst hd <;> first | exact rep_own_cells hr | (cases hr <;> rfl)) rfl sl22 zr25 rfl (ec (ev1 rfl) en) (by decide) rfl) (by simp only [upd, List.set_cons_zero, List.set_cons_succ]; exact rfl) ?_
    refine walk_r rfl rfl rfl (dop_call [] [1, 0] [] rfl (ev1 rfl) (ec (ev1 rfl) en) rfl rfl (sum1_c (l.take (min l.length 400)) hkn (by omega)) rfl rfl rfl rfl rfl rfl) ?_
    refine walk_r rfl rfl rfl (op_eql rfl (ev1 rfl) (ev1 rfl)) ?_
    refine walk_r rfl rfl rfl (op_move (.inl rfl) (ev1 rfl)) ?_
    refine walk_gr (gd_t rfl rfl rfl) rfl rfl rfl (op_move (.inl rfl) (ev1 rfl)) ?_
    refine walk_gr (gd_t rfl rfl rfl) rfl rfl rfl (dop_call [] [0] [] rfl (ev1 rfl) (ec (ev1 rfl) (ec (ev2 rfl) en)) rfl rfl (more_c 7 (by decide) (l.take (min l.length 400)) hkn (by omega)) rfl rfl rfl rfl rfl rfl) ?_
    refine walk_gr (gd_t rfl rfl rfl) rfl rfl rfl (op_eql rfl (ev2 rfl) (ev1 rfl)) ?_
    refine walk_r rfl rfl rfl (op_and rfl (ev1 rfl) (ev3 rfl id)) ?_
    refine walk_r rfl rfl rfl (op_move (.inr rfl) (ev1 rfl)) ?_
    refine walk_nil ?_
    refine dwp_ret ?_
    refine kend0 (rs1 rfl (rv_t rfl)) rfl ?_
    rw [hz, more_nil, more_nil]
    rfl
  · have hz : 0 < (l.take (min l.length 400)).length := by have := of_decide_eq_false hz0; omega
    obtain ⟨a, ha, hae⟩ := place_of p hz
    obtain ⟨hm1, hm2⟩ := cut_more (Nat.le_of_lt ha)
    have hst := set_more hkn hb ha
    refine dwp_skip ?_
    refine dwp_seq ?_
    refine dwp_region ?_
    refine walk_r rfl rfl rfl (op_move (.inl rfl) (ev1 rfl)) ?_
    refine walk_r rfl rfl rfl (op_conv ty3 kn49 rfl (ev1 rfl)) ?_
    refine walk_r rfl rfl rfl (op_move (.inl rfl) (ev1 rfl)) ?_
    refine walk_r rfl rfl rfl (op_lena rfl sl25 (ev1 rfl) rfl) ?_
    refine walk_r rfl rfl rfl (op_conv' ty3 kn49 rfl (ev1 rfl) (fun _ => IntWalk.u64_in _ (by omega))) ?_
    refine walk_r rfl rfl rfl (op_rem' rfl (ev1 rfl) (ev1 rfl) (fun _ => ⟨by omega, by omega⟩)) ?_
    refine walk_r rfl rfl rfl (op_conv' ty49 kn3 rfl (ev1 rfl) (fun _ => IntWalk.i64_in _ (by rw [hae]; omega))) ?_
    refine walk_r rfl rfl rfl (op_move (.inr rfl) (ev1 rfl)) ?_
    refine walk_nil ?_
    refine dwp_seq ?_
    rw [hae]
    refine dwp_holes 1 (by simp only [holes, List.cons_append, List.nil_append]; exact rfl) ?_
    refine dwp_region ?_
    refine walk_r rfl rfl rfl (op_move (.inl rfl) (ev1 rfl)) ?_
    refine walk_w rfl rfl rfl (op_bsx (ps := [(0, .tmp 33)]) 1 (fun s d v hd hr => by simp only [List.mem_cons, List.not_mem_nil, or_false] at hd; subst hd <;> first | exact rep_own_cells hr | (cases hr <;> rfl)) rfl sl22 zr25 rfl (ec (ev1 rfl) en) (by decide) rfl) (by simp only [upd, List.set_cons_zero, List.set_cons_succ]; exact rfl) ?_
    refine walk_r rfl rfl rfl (dop_call [] [1, 0] [] rfl (ev1 rfl) (ec (ev1 rfl) en) rfl rfl (sum1_c (l.take (min l.length 400)) hkn (by omega)) rfl rfl rfl rfl rfl rfl) ?_
    refine walk_r rfl rfl rfl (op_move (.inr rfl) (ev1 rfl)) ?_
    refine walk_nil ?_
    refine dwp_seq ?_
    refine dwp_seq ?_
    refine dwp_holes 2 (by simp only [holes, List.cons_append, List.nil_append]; exact rfl) ?_
    refine dwp_draw [([], []), ([], []), ([0], []), ([2], [2]), ([2, 0], []), ([], []), ([], []), ([0], []), ([0], []), ([], []), ([], []), ([], []), ([], []), ([], []), ([0], []), ([], []), ([], []), ([0], []), ([3], [3]), ([3, 0], []), ([], []), ([], []), ([], [])] mixed (by kernel_rfl) ?_
    refine lex_r rfl rfl (op_move (.inl rfl) (ev1 rfl)) ?_
    refine lex_r rfl rfl (op_move (.inl rfl) (ev1 rfl)) ?_
    refine lex_r rfl rfl (op_sla rfl sl25 (ev1 rfl) rfl bd_none (bd_some (ev1 rfl)) (fun _ => by omega)) ?_
    refine lex_w rfl rfl (op_bsx (ps := [(0, .tmp 38)]) 2 (fun s d v hd hr => by simp only [List.mem_cons, List.not_mem_nil, or_false] at hd; subst hd <;> first | exact rep_own_cells hr | (cases hr <;> rfl)) rfl sl22 zr25 rfl (ec (ev1 rfl) en) (by decide) rfl) rfl (by simp only [upd, List.set_cons_zero, List.set_cons_succ]; exact rfl) ?_
    refine lex_r rfl rfl (dop_call [] [2, 0] [] rfl (ev1 rfl) (ec (ev1 rfl) en) rfl rfl (sum_own (l := (l.take (min l.length 400))) 0 a (by omega) hkn (by omega)) rfl rfl rfl rfl rfl rfl) ?_
    refine lex_r rfl rfl (op_move (.inl rfl) (ev1 rfl)) ?_
    refine lex_r rfl rfl (op_move (.inl rfl) (ev1 rfl)) ?_
    refine lex_r rfl rfl (op_sla rfl sl25 (ev1 rfl) rfl (bd_some (ev1 rfl)) bd_none (fun _ => by omega)) ?_
    refine lex_r rfl rfl (dop_call [] [0] [] rfl (ev1 rfl) (ec (ev1 rfl) (ec (ev1 rfl) en)) rfl rfl (more_own (l := (l.take (min l.length 400))) _ (more_lt (sub_N hkn 0 a) (by decide)) a ((l.take (min l.length 400)).length - a) (by omega) hkn (by omega)) rfl rfl rfl rfl rfl rfl) ?_
    refine lex_r rfl rfl (op_move (.inl rfl) (ev1 rfl)) ?_
    refine lex_r rfl rfl ((op_neq rfl (ev1 rfl) (ev1 rfl)).cast (d' := .val (.bool false)) (by rw [hm1]; simp)) ?_
    refine lex_r rfl rfl (op_move (.inl rfl) (ev1 rfl)) ?_
    refine lex_k (gd_f (b := false) rfl rfl rfl) rfl rfl (op_move (.inl rfl) (ev1 rfl)) rfl (by simp only [upd, List.set_cons_zero, List.set_cons_succ]; exact rfl) ?_
    refine lex_k (gd_f (b := false) rfl rfl rfl) rfl rfl (op_move (.inl rfl) (ev1 rfl)) rfl (by simp only [upd, List.set_cons_zero, List.set_cons_succ]; exact rfl) ?_
    refine lex_k (gd_f (b := false) rfl rfl rfl) rfl rfl (op_sla rfl sl25 (ev2 rfl) rfl bd_none (bd_some (ev2 rfl)) (fun _ => by omega)) rfl (by simp only [upd, List.set_cons_zero, List.set_cons_succ]; exact rfl) ?_
    refine lex_k (gd_f (b := false) rfl rfl rfl) rfl rfl (op_move (.inl rfl) (ev1 rfl)) rfl (by simp only [upd, List.set_cons_zero, List.set_cons_succ]; exact rfl) ?_
    refine lex_k (gd_f (b := false) rfl rfl rfl) rfl rfl (op_move (.inl rfl) (ev1 rfl)) rfl (by simp only [upd, List.set_cons_zero, List.set_cons_succ]; exact rfl) ?_
    refine lex_k (gd_f (b := false) rfl rfl rfl) rfl rfl (op_sla rfl sl25 (ev2 rfl) rfl (bd_some (ev2 rfl)) bd_none (fun _ => by omega)) rfl (by simp only [upd, List.set_cons_zero, List.set_cons_succ]; exact rfl) ?_
    refine lex_k (gd_f (b := false) rfl rfl rfl) rfl rfl (op_bsx (ps := [(0, .tmp 50), (1, .tmp 53)]) 3 (fun s d v hd hr => by simp only [List.mem_cons, List.not_mem_nil, or_false] at hd; rcases hd with rfl | rfl  <;> first | exact rep_own_cells hr | (cases hr <;> rfl)) rfl sl22 zr25 rfl (ec (ev2 rfl) (ec (ev2 rfl) en)) (by decide) rfl) rfl (by simp only [upd, List.set_cons_zero, List.set_cons_succ]; exact rfl) ?_
    refine lex_k (gd_f (b := false) rfl rfl rfl) rfl rfl (dop_call [] [3, 0] [] rfl (ev1 rfl) (ec (ev2 rfl) en) rfl rfl (sum_two (l := (l.take (min l.length 400))) 0 a a ((l.take (min l.length 400)).length - a) (by omega) (by omega) hkn (by omega)) rfl rfl rfl rfl rfl rfl) rfl (by simp only [upd, List.set_cons_zero, List.set_cons_succ]; exact rfl) ?_
    refine lex_k (gd_f (b := false) rfl rfl rfl) rfl rfl (op_move (.inl rfl) (ev1 rfl)) rfl (by simp only [upd, List.set_cons_zero, List.set_cons_succ]; exact rfl) ?_
    refine lex_k (gd_f (b := false) rfl rfl rfl) rfl rfl (op_neq rfl (ev2 rfl) (ev2 rfl)) rfl (by simp only [upd, List.set_cons_zero, List.set_cons_succ]; exact rfl) ?_
    refine lex_r rfl rfl ((op_or rfl (ev1 rfl) (ev3 rfl (fun _ => rfl))).cast (d' := .val (.bool false)) (by rw [hm2]; simp)) ?_
    refine lex_nil ?_
    refine dwp_if_f rfl (rfl) ?_
    refine dwp_skip ?_
    refine dwp_seq ?_
    refine dwp_region ?_
    refine walk_r rfl rfl rfl (op_move (.inl rfl) (ev1 rfl)) ?_
    refine walk_r rfl rfl rfl (op_move (.inl rfl) (ev1 rfl)) ?_
    refine walk_r rfl rfl rfl (op_ixar (j := a) rfl sl25 (ev1 rfl) (ev1 rfl) rfl (fun _ => by first | rfl | omega) (fun _ => by omega)) ?_
    refine walk_r rfl rfl rfl (op_lda1 rfl tb5 (ev1 rfl) rfl (fun _ => rfl) (by omega) rfl) ?_
    refine walk_r rfl rfl rfl (op_move (.inr rfl) (ev1 rfl)) ?_
    refine walk_nil ?_
    refine dwp_seq ?_
    refine dwp_region ?_
    refine walk_r rfl rfl rfl (op_move (.inl rfl) (ev1 rfl)) ?_
    refine walk_r rfl rfl rfl (op_move (.inl rfl) (ev1 rfl)) ?_
    refine walk_r rfl rfl rfl (op_move (.inl rfl) (ev1 rfl)) ?_
    refine walk_r rfl rfl rfl (op_ixar (j := a) rfl sl25 (ev1 rfl) (ev1 rfl) rfl (fun _ => by first | rfl | omega) (fun _ => by omega)) ?_
    refine walk_s rfl rfl (op_staf (l := (l.take (min l.length 400))) (en := un8) (j := a) (c := 0) (0) (b) rfl tb5 (ev1 rfl) (ev1 rfl) rfl rfl rfl rfl (fun _ => rfl) (fun _ => by omega) (Nat.le_of_ble_eq_true rfl) rfl) (by simp only [upd, List.set_cons_zero, List.set_cons_succ]; exact rfl) ?_
    refine walk_nil ?_
    refine dwp_seq ?_
    refine dwp_holes 1 (by simp only [holes, List.cons_append, List.nil_append]; exact rfl) ?_
    refine dwp_region ?_
    refine walk_r rfl rfl rfl (op_move (.inl rfl) (ev1 rfl)) ?_
    refine walk_w rfl rfl rfl (op_bsx (ps := [(0, .tmp 67)]) 4 (fun s d v hd hr => by simp only [List.mem_cons, List.not_mem_nil, or_false] at hd; subst hd <;> first | exact rep_own_cells hr | (cases hr <;> rfl)) rfl sl22 zr25 rfl (ec (ev1 rfl) en) (by decide) rfl) (by simp only [upd, List.set_cons_zero, List.set_cons_succ]; exact rfl) ?_
    refine walk_r rfl rfl rfl (dop_call [] [4, 0] [] rfl (ev1 rfl) (ec (ev1 rfl) en) rfl rfl (sum_n (l := (l.take (min l.length 400)).set a b) _ (by rw [List.length_set]) (set_lt hkn hb) (by rw [List.length_set]; omega)) rfl rfl rfl rfl rfl rfl) ?_
    refine walk_r rfl rfl rfl (op_move (.inl rfl) (ev1 rfl)) ?_
    refine walk_r rfl rfl rfl (op_eql rfl (ev1 rfl) (ev1 rfl)) ?_
    refine walk_r rfl rfl rfl (op_move (.inl rfl) (ev1 rfl)) ?_
    refine walk_r rfl rfl rfl (op_move (.inl rfl) (ev1 rfl)) ?_
    refine walk_r rfl rfl rfl (op_eql rfl (ev1 rfl) (ev1 rfl)) ?_
    refine walk_r rfl rfl rfl (op_eqb rfl un4 (ev1 rfl) (ev1 rfl)) ?_
    refine walk_r rfl rfl rfl (op_move (.inr rfl) (ev1 rfl)) ?_
    refine walk_nil ?_
    refine dwp_ret ?_
    refine kend0 (rs1 rfl (rv_t rfl)) rfl ?_
    have hme : (((moreC 0 ((l.take (min l.length 400)).set a b) : Nat) : Int) == ((moreC 0 (l.take (min l.length 400)) : Nat) : Int)) = ((b : Int) == (((l.take (min l.length 400))[a] : Nat) : Int)) := by
      rw [Bool.eq_iff_iff]
      simp only [beq_iff_eq, Int.natCast_inj]
      exact hst
    rw [hme, beq_self_eq_true]

theorem parts_n (l : List Nat) (p b : Int) (hl : ∀ x ∈ l, x < 256) (hb : 0 ≤ b ∧ b < 256) : DFun Try.prog 7 [.slf 1 l.length (l.flatMap un8), .val (.int .i64 p), .val (.int .u8 b)] [] (.val (.bool true)) [] := by
  obtain ⟨n, rfl⟩ := Int.eq_ofNat_of_zero_le hb.1
  exact parts_d l p n hl (by omega)

end Go.Proofs.Ytnpfbeoibbejeaa
