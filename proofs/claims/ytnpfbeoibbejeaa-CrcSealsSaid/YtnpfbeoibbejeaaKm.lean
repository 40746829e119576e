/- the law of wants, walked -/
import Derived.Test.YtnpfbeoibbejeaaKk
namespace Go.Proofs.Ytnpfbeoibbejeaa
set_option linter.unusedVariables false
set_option linter.unusedSimpArgs false
open Go.RowKit

theorem wants1 {s w : Nat} (hs : s < 2 ^ 32) (hw : w < 2 ^ 32) : moreC s (four (Ws 32 (trn w) ^^^ trn s)) = w := by
  unfold moreC
  rw [fed_four _ (Nat.xor_lt_two_pow (Ws_lt 32 (trn_lt hw)) (trn_lt hs)), Nat.xor_comm (Ws 32 (trn w)), ← Nat.xor_assoc, Nat.xor_self, Nat.zero_xor, Zs_Ws 32 (trn_lt hw), trn_trn]
theorem wants2 {s : Nat} {l : List Nat} (hs : s < 2 ^ 32) (h4 : l.length = 4) (hn : isN l) : four (Ws 32 (trn (moreC s l)) ^^^ trn s) = l := by
  obtain ⟨b, hb, rfl⟩ := four_of h4 hn
  unfold moreC
  rw [trn_trn, fed_four _ hb, Ws_Zs 32 (Nat.xor_lt_two_pow (trn_lt hs) hb), xor_xor']
theorem wants3 {s w : Nat} {l : List Nat} (hs : s < 2 ^ 32) (hw : w < 2 ^ 32) (h4 : l.length = 4) (hn : isN l) : moreC s l = w ↔ l = four (Ws 32 (trn w) ^^^ trn s) :=
  ⟨fun h => by rw [← h, wants2 hs h4 hn], fun h => by rw [h, wants1 hs hw]⟩
theorem few_lt {l : List Nat} (h : isN l) : isN (l.take (min l.length 400)) := fun x hx => h x (List.mem_of_mem_take hx)
theorem few_len (l : List Nat) : (l.take (min l.length 400)).length ≤ 400 := by rw [List.length_take]; omega

set_option maxRecDepth 4000 in
set_option maxHeartbeats 1000000 in
theorem wants_d (l : List Nat) (w t : Nat) (hl : isN l) (hw : w < 2 ^ 32) (ht : t < 2 ^ 32) : DFun Try.prog 8 [.slf 1 (l).length ((l).flatMap un8), .val (.int .u32 ((w : Nat) : Int)), .val (.agg ((four t).flatMap un8).toArray)] [] (.val (.bool true)) [] := by
  refine dcalls_go (N := 41) 0 (by kernel_rfl) Try.func8 rfl rfl rfl (by simp only [fr0, Nat.zero_add, Nat.reduceAdd]; exact rfl) rfl fun s0 hs0 => ?_
  refine dwp_len (t := 0) rfl fun hl0 hL0 => ?_
  refine dwp_seq ?_
  have hkn := few_lt hl
  have hkl := few_len l
  have hs := more_lt hkn (show 0 < 2 ^ 32 by decide)
  have hx := Nat.xor_lt_two_pow (Ws_lt 32 (trn_lt hw)) (trn_lt hs)
  have hn : isN (four t) := four_lt ht
  have hm := more_lt hn hs
  refine dwp_holes 1 (by simp only [holes, List.cons_append, List.nil_append]; exact rfl) ?_
  refine dwp_region ?_
  refine walk_w rfl rfl rfl (op_boxa 0 rfl (ev1 rfl) rfl) (by simp only [upd, List.set_cons_zero, List.set_cons_succ]; exact rfl) ?_
  refine walk_r rfl rfl rfl (op_move (.inr rfl) (ev1 rfl)) ?_
  refine walk_nil ?_
  refine dwp_seq ?_
  refine dwp_seq ?_
  refine dwp_region ?_
  refine walk_r rfl rfl rfl (dop_call [] [] [] rfl (ev1 rfl) en rfl rfl (wakes_d) rfl rfl rfl rfl rfl rfl) ?_
  refine walk_r rfl rfl rfl (op_not rfl (ev1 rfl)) ?_
  refine walk_nil ?_
  refine dwp_if_f rfl (rfl) ?_
  refine dwp_skip ?_
  refine dwp_seq ?_
  refine dwp_region ?_
  refine walk_r rfl rfl rfl (op_move (.inl rfl) (ev1 rfl)) ?_
  refine walk_r rfl rfl rfl (dop_call [] [] [] rfl (ev1 rfl) (ec (ev1 rfl) en) rfl rfl (few_d l) rfl rfl rfl rfl rfl rfl) ?_
  refine walk_r rfl rfl rfl (op_bsm (ps := [(0, .tmp 12)]) rfl sl22 zr25 rfl (ec (ev1 rfl) en) rfl (by decide)) ?_
  refine walk_r rfl rfl rfl (dop_call [] [] [] rfl (ev1 rfl) (ec (ev1 rfl) en) rfl rfl (sum1_c (l.take (min l.length 400)) hkn (by omega)) rfl rfl rfl rfl rfl rfl) ?_
  refine walk_r rfl rfl rfl (op_move (.inr rfl) (ev1 rfl)) ?_
  refine walk_nil ?_
  refine dwp_seq ?_
  refine dwp_holes 1 (by simp only [holes, List.cons_append, List.nil_append]; exact rfl) ?_
  refine dwp_region ?_
  refine walk_r rfl rfl rfl (op_move (.inl rfl) (ev1 rfl)) ?_
  refine walk_r rfl rfl rfl (op_move (.inl rfl) (ev1 rfl)) ?_
  refine walk_r rfl rfl rfl (dop_call [] [] [] rfl (ev1 rfl) (ec (ev1 rfl) (ec (ev1 rfl) en)) rfl rfl (tail_d (moreC 0 (l.take (min l.length 400))) w hs hw) rfl rfl rfl rfl rfl rfl) ?_
  refine walk_w rfl rfl rfl (op_alloc 1 rfl zr45 rfl) (by simp only [upd, List.set_cons_zero, List.set_cons_succ]; exact rfl) ?_
  refine walk_s rfl rfl (op_stwa rfl tb45 (ev1 rfl) (ev1 rfl) rfl rfl rfl rfl) (by simp only [upd, List.set_cons_zero, List.set_cons_succ]; exact rfl) ?_
  refine walk_nil ?_
  refine dwp_seq ?_
  refine dwp_seq ?_
  refine dwp_view ⟨hs0, rfl⟩ [] [0, 1] [(1, _), (5, _), (7, _), (8, _)] [] rfl ⟨rfl, rfl, rfl, rfl, trivial⟩ trivial ?_
  refine dwp_draw [([], []), ([], []), ([], []), ([], []), ([], []), ([], []), ([], []), ([], []), ([], []), ([], []), ([], []), ([], []), ([], []), ([], [])] mixed (by kernel_rfl) ?_
  refine lex_r rfl rfl (op_move (.inl rfl) (ev1 rfl)) ?_
  refine lex_r rfl rfl (op_slad (p := 0) (q := 4) rfl ar45 (ev1 rfl) bd_none bd_none (fun _ => rfl) (fun _ => rfl) (fun _ => by decide) (rfl) (by decide) (fun _ => rfl)) ?_
  refine lex_r rfl rfl (dop_call [] [] [] rfl (ev1 rfl) (ec (ev1 rfl) (ec (ev1 rfl) en)) rfl rfl (more_c (moreC 0 (l.take (min l.length 400))) hs (four (Ws 32 (trn w) ^^^ trn (moreC 0 (l.take (min l.length 400))))) (four_lt hx) (by rw [four_len]; omega)) rfl rfl rfl rfl rfl rfl) ?_
  refine lex_r rfl rfl (op_move (.inl rfl) (ev1 rfl)) ?_
  refine lex_r rfl rfl (op_neq rfl (ev1 rfl) (ev1 rfl)) ?_
  refine lex_r rfl rfl (op_move (.inl rfl) (ev1 rfl)) ?_
  refine lex_gr (gd_f rfl rfl rfl) rfl rfl (op_move (.inl rfl) (ev1 rfl)) ?_
  refine lex_gr (gd_f rfl rfl rfl) rfl rfl (op_move (.inl rfl) (ev1 rfl)) ?_
  refine lex_gr (gd_f rfl rfl rfl) rfl rfl (op_slad (p := 0) (q := 4) rfl ar45 (ev1 rfl) bd_none bd_none (fun _ => rfl) (fun _ => rfl) (fun _ => by decide) (rfl) (by decide) (fun _ => rfl)) ?_
  refine lex_gr (gd_f rfl rfl rfl) rfl rfl (dop_call [] [] [] rfl (ev1 rfl) (ec (ev2 rfl) (ec (ev2 rfl) en)) rfl rfl (more_c (moreC 0 (l.take (min l.length 400))) hs (four t) hn (by rw [four_len]; omega)) rfl rfl rfl rfl rfl rfl) ?_
  refine lex_gr (gd_f rfl rfl rfl) rfl rfl (dop_call [] [] [] rfl (ev1 rfl) (ec (ev2 rfl) (ec (ev2 rfl) en)) rfl rfl (tail_d (moreC 0 (l.take (min l.length 400))) (moreC (moreC 0 (l.take (min l.length 400))) (four t)) hs hm) rfl rfl rfl rfl rfl rfl) ?_
  refine lex_gr (gd_f rfl rfl rfl) rfl rfl (op_ldwd rfl tb45 (ev1 rfl) rfl) ?_
  refine lex_gr (gd_f rfl rfl rfl) rfl rfl (op_ner (eq4 rfl rfl) rfl gd45 tb45 (ev2 rfl) (ev2 rfl)) ?_
  refine lex_r rfl rfl (op_or rfl (ev1 rfl) (ev3 rfl id)) ?_
  refine lex_nil ?_
  refine dwp_if_f rfl (by rw [wants1 hs hw, wants2 hs (four_len t) hn]; simp) ?_
  refine dwp_skip ?_
  refine dwp_seq ?_
  refine dwp_draw [([], []), ([], []), ([], []), ([], []), ([], []), ([], []), ([], []), ([], []), ([], []), ([], [])] mixed (by kernel_rfl) ?_
  refine lex_r rfl rfl (op_move (.inl rfl) (ev1 rfl)) ?_
  refine lex_r rfl rfl (op_slad (p := 0) (q := 4) rfl ar45 (ev1 rfl) bd_none bd_none (fun _ => rfl) (fun _ => rfl) (fun _ => by decide) (rfl) (by decide) (fun _ => rfl)) ?_
  refine lex_r rfl rfl (dop_call [] [] [] rfl (ev1 rfl) (ec (ev1 rfl) (ec (ev1 rfl) en)) rfl rfl (more_c (moreC 0 (l.take (min l.length 400))) hs (four t) hn (by rw [four_len]; omega)) rfl rfl rfl rfl rfl rfl) ?_
  refine lex_r rfl rfl (op_move (.inl rfl) (ev1 rfl)) ?_
  refine lex_r rfl rfl (op_eql rfl (ev1 rfl) (ev1 rfl)) ?_
  refine lex_r rfl rfl (op_ldwd rfl tb45 (ev1 rfl) rfl) ?_
  refine lex_r rfl rfl (op_ldwd rfl tb45 (ev1 rfl) rfl) ?_
  refine lex_r rfl rfl (op_eqr (eq4 rfl rfl) rfl gd45 tb45 (ev1 rfl) (ev1 rfl)) ?_
  refine lex_r rfl rfl (op_eqb rfl un4 (ev1 rfl) (ev1 rfl)) ?_
  refine lex_r rfl rfl (op_move (.inr rfl) (ev1 rfl)) ?_
  refine lex_nil ?_
  refine dwp_ret ?_
  refine kend0 (rs1 rfl (rv_t rfl)) rfl ?_
  have e : (((moreC (moreC 0 (l.take (min l.length 400))) (four t) : Nat) : Int) == (w : Int)) = decide (four t = four (Ws 32 (trn w) ^^^ trn (moreC 0 (l.take (min l.length 400))))) := by
    rw [Bool.eq_iff_iff]
    simp only [beq_iff_eq, decide_eq_true_eq, Int.natCast_inj]
    exact wants3 hs hw (four_len t) hn
  rw [e, beq_self_eq_true]

theorem wants_n (l : List Nat) (w : Int) (t : Nat) (hl : ∀ x ∈ l, x < 256) (hw : 0 ≤ w ∧ w < 4294967296) (ht : t < 2 ^ 32) : DFun Try.prog 8 [.slf 1 l.length (l.flatMap un8), .val (.int .u32 w), .val (.agg ((four t).flatMap un8).toArray)] [] (.val (.bool true)) [] := by
  obtain ⟨n, rfl⟩ := Int.eq_ofNat_of_zero_le hw.1
  exact wants_d l n t hl (by omega) ht

end Go.Proofs.Ytnpfbeoibbejeaa
