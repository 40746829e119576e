/- what clocks give: the law, walked -/
import Derived.Test.YtaekkjhpdendoaaDoorGm
namespace Go.Proofs.YtaekkjhpdendoaaDoor
set_option linter.unusedVariables false
set_option linter.unusedSimpArgs false
open Go.RowKit

set_option maxRecDepth 4000 in
set_option maxHeartbeats 1000000 in
theorem gives_d (l : List T3) (hr : ∀ x ∈ l, x.rng) : DFun Tryd.prog 7 [.slf 3 l.length (l.flatMap t3c)] [] (.val (.bool true)) [] := by
  refine dcalls_go (N := 161) 0 (by kernel_rfl) Tryd.func7 rfl rfl rfl (by simp only [fr0, Nat.zero_add, Nat.reduceAdd]; exact rfl) rfl fun s0 hs0 => ?_
  refine dwp_len (t := 0) rfl fun hl0 hL0 => ?_
  refine dwp_seq ?_
  refine dwp_region ?_
  refine walk_r rfl rfl rfl (op_move (.inr rfl) (ev1 rfl)) ?_
  refine walk_nil ?_
  refine dwp_seq ?_
  refine dwp_seq ?_
  refine dwp_region ?_
  refine walk_r rfl rfl rfl (dop_call [] [] [] rfl (ev1 rfl) en rfl rfl (wakes_d) rfl rfl rfl rfl rfl rfl) ?_
  refine walk_r rfl rfl rfl (op_not rfl (ev1 rfl)) ?_
  refine walk_nil ?_
  refine dwp_if_f rfl (rfl) ?_
  refine dwp_skip ?_
  refine dwp_seq ?_
  refine dwp_holes 1 (by simp only [holes, List.cons_append, List.nil_append]; exact rfl) ?_
  refine dwp_region ?_
  refine walk_w rfl rfl rfl (op_alloc 0 rfl zr64 rfl) (by simp only [upd, List.set_cons_zero, List.set_cons_succ]; exact rfl) ?_
  refine walk_nil ?_
  refine dwp_seq ?_
  refine dwp_seq ?_
  refine dwp_region ?_
  refine walk_r rfl rfl rfl (op_move (.inr rfl) (ev1 rfl)) ?_
  refine walk_nil ?_
  refine dwp_block ?_
  refine dwp_loopS ⟨hs0, rfl⟩ (α := Nat) (fun n => [(4, .val (.int .i64 (n : Int)))]) [(0, _), (3, _)] (fun n => [(0, .flat 64 ((csK (n - 1)).flatMap ckc))]) [.hole] (fun n => 1 ≤ n ∧ n ≤ 9) (fun n => 9 - n) 1 [0] (by simp) rfl ⟨rfl, rfl, trivial⟩ ⟨rfl, trivial⟩ ⟨rfl, trivial⟩ ?_
  intro n hx
  simp only [upd, List.set_cons_zero, List.set_cons_succ, List.cons_append, List.nil_append]
  obtain ⟨hn1, hn9⟩ := hx
  refine dwp_seq ?_
  refine dwp_seq ?_
  refine dwp_region ?_
  refine walk_r rfl rfl rfl (op_move (.inl rfl) (ev1 rfl)) ?_
  refine walk_r rfl rfl rfl (op_leq rfl (ev1 rfl) (ev1 rfl)) ?_
  refine walk_nil ?_
  refine dwp_cond rfl (fun c2 => ?_) (fun c2 => ?_)
  · try simp only [decide_eq_true_eq, decide_eq_false_iff_not, beq_iff_eq, bne_iff_ne, beq_eq_false_iff_ne, bne_eq_false_iff_eq, Bool.not_eq_true', Bool.not_eq_false', Bool.and_eq_true, Bool.or_eq_true, Bool.or_eq_false_iff, ne_eq, Decidable.not_not, Int.not_lt, Int.not_le] at c2
    refine dwp_skip ?_
    refine dwp_seq ?_
    refine dwp_block ?_
    refine dwp_seq ?_
    refine dwp_holes 1 (by simp only [holes, List.cons_append, List.nil_append]; exact rfl) ?_
    refine dwp_region ?_
    refine walk_r rfl rfl rfl (op_move (.inl rfl) (ev1 rfl)) ?_
    refine walk_r rfl rfl rfl (dop_call [] [] [] rfl (ev1 rfl) (ec (ev1 rfl) en) rfl rfl (newOk_d (n := n) (by omega)) rfl rfl rfl rfl rfl rfl) ?_
    refine walk_r rfl rfl rfl (op_move (.inl rfl) (ev1 rfl)) ?_
    refine walk_r rfl rfl rfl (op_ext rfl (ev1 rfl) rfl) ?_
    refine walk_r rfl rfl rfl (op_ext rfl (ev1 rfl) rfl) ?_
    refine walk_w rfl rfl rfl (op_alloc 1 rfl zr40 rfl) (by simp only [upd, List.set_cons_zero, List.set_cons_succ]; exact rfl) ?_
    refine walk_s rfl rfl (op_stwa rfl tb40 (ev1 rfl) (ev1 rfl) rfl rfl rfl rfl) (by simp only [upd, List.set_cons_zero, List.set_cons_succ]; exact rfl) ?_
    refine walk_r rfl rfl rfl (op_move (.inr rfl) (ev1 rfl)) ?_
    refine walk_nil ?_
    refine dwp_seq ?_
    refine dwp_seq ?_
    refine dwp_region ?_
    refine walk_r rfl rfl rfl (op_move (.inl rfl) (ev1 rfl)) ?_
    refine walk_r rfl rfl rfl (op_neq rfl (ev1 rfl) (ev1 rfl)) ?_
    refine walk_nil ?_
    refine dwp_if_f rfl (rfl) ?_
    refine dwp_skip ?_
    refine dwp_region ?_
    refine walk_r rfl rfl rfl (op_move (.inl rfl) (ev1 rfl)) ?_
    refine walk_r rfl rfl rfl (op_ldw rfl tb40 (ev1 rfl) rfl rfl) ?_
    refine walk_r rfl rfl rfl (op_ixfr (j := n) rfl ar64 (ev1 rfl) (ev1 rfl) (fun _ => by omega) (fun _ => by omega)) ?_
    refine walk_s rfl rfl (op_stfr (q := ⟨(n : Int), 0, 0⟩) rfl tb40 (ev1 rfl) (ev1 rfl) rfl rfl rfl (fun _ => rfl) (fun _ => by first | omega | (rw [csK_len]; omega))) (by simp only [upd, List.set_cons_zero, List.set_cons_succ]; exact rfl) ?_
    refine walk_nil ?_
    refine dwp_region ?_
    refine walk_r rfl rfl rfl (op_move (.inl rfl) (ev1 rfl)) ?_
    refine walk_r rfl rfl rfl (op_add' rfl (ev1 rfl) (ev1 rfl) (fun _ => IntWalk.i64_in _ (by omega))) ?_
    refine walk_r rfl rfl rfl (op_move (.inr rfl) (ev1 rfl)) ?_
    refine walk_nil ?_
    refine ⟨n + 1, [0], by omega, by simp only []; omega, rfl, ⟨rfl, rfl, rfl, trivial⟩, ⟨by rw [show n + 1 - 1 = (n - 1) + 1 by omega, csK, show n - 1 + 1 = n by omega]; rfl, trivial⟩⟩
  · try simp only [decide_eq_true_eq, decide_eq_false_iff_not, beq_iff_eq, bne_iff_ne, beq_eq_false_iff_ne, bne_eq_false_iff_eq, Bool.not_eq_true', Bool.not_eq_false', Bool.and_eq_true, Bool.or_eq_true, Bool.or_eq_false_iff, ne_eq, Decidable.not_not, Int.not_lt, Int.not_le] at c2
    refine dwp_exit ?_
    refine dwp_seq ?_
    obtain rfl : n = 9 := by omega
    refine dwp_holes 1 (by simp only [holes, List.cons_append, List.nil_append]; exact rfl) ?_
    refine dwp_region ?_
    refine walk_w rfl rfl rfl (op_mkm idc 1 rfl rfl) (by simp only [upd, List.set_cons_zero, List.set_cons_succ]; exact rfl) ?_
    refine walk_r rfl rfl rfl (op_move (.inr rfl) (ev1 rfl)) ?_
    refine walk_nil ?_
    refine dwp_seq ?_
    refine dwp_holes 1 (by simp only [holes, List.cons_append, List.nil_append]; exact rfl) ?_
    refine dwp_region ?_
    refine walk_w rfl rfl rfl (op_alloc 2 rfl zr66 rfl) (by simp only [upd, List.set_cons_zero, List.set_cons_succ]; exact rfl) ?_
    refine walk_nil ?_
    refine dwp_seq ?_
    refine dwp_seq ?_
    refine dwp_region ?_
    refine walk_r rfl rfl rfl (op_move (.inl rfl) (ev1 rfl)) ?_
    refine walk_r rfl rfl rfl (op_len rfl sl63 (ev1 rfl)) ?_
    refine walk_r rfl rfl rfl (op_move (.inl rfl) (ev1 rfl)) ?_
    refine walk_nil ?_
    refine dwp_block ?_
    refine dwp_loopS ⟨hs0, rfl⟩ (α := Nat × List C3 × List I3 × List (I3 × Int)) (fun x => [(36, .val (.int .i64 (x.1 : Int)))]) [(3, _), (7, _), (8, _), (34, _), (35, _)] (fun x => [(0, .flat 64 ((x.2.1).flatMap ckc)), (1, .obj (mapO idc x.2.2.2)), (2, .flat 66 ((x.2.2.1).flatMap idc))]) [.hole, .hole, .hole] (fun x => (x.1 ≤ l.length ∧ x.1 ≤ 60) ∧ GInv x.1 x.2.1 x.2.2.1 x.2.2.2) (fun x => l.length - x.1) (0, csK 8, zIs, []) [0, 1, 2] (⟨by simp, ginv0⟩) rfl ⟨rfl, rfl, rfl, rfl, rfl, trivial⟩ ⟨rfl, trivial⟩ ⟨rfl, rfl, rfl, trivial⟩ ?_
    intro x hx
    simp only [upd, List.set_cons_zero, List.set_cons_succ, List.cons_append, List.nil_append]
    obtain ⟨i, cs, ls, m⟩ := x
    obtain ⟨hk, hg⟩ := hx
    dsimp only at hk hg ⊢
    have hlc := hg.lc
    have hll := hg.ll
    refine dwp_seq ?_
    refine dwp_region ?_
    refine walk_r rfl rfl rfl (op_lss rfl (ev1 rfl) (ev1 rfl)) ?_
    refine walk_nil ?_
    refine dwp_seq ?_
    refine dwp_cond rfl (fun c4 => ?_) (fun c4 => ?_)
    · try simp only [decide_eq_true_eq, decide_eq_false_iff_not, beq_iff_eq, bne_iff_ne, beq_eq_false_iff_ne, bne_eq_false_iff_eq, Bool.not_eq_true', Bool.not_eq_false', Bool.and_eq_true, Bool.or_eq_true, Bool.or_eq_false_iff, ne_eq, Decidable.not_not, Int.not_lt, Int.not_le] at c4
      refine dwp_skip ?_
      refine dwp_seq ?_
      refine dwp_block ?_
      refine dwp_seq ?_
      refine dwp_holes 1 (by simp only [holes, List.cons_append, List.nil_append]; exact rfl) ?_
      refine dwp_region ?_
      refine walk_r rfl rfl rfl (op_move (.inl rfl) (ev1 rfl)) ?_
      refine walk_r rfl rfl rfl (op_ixsr (j := i) rfl sl63 (ev1 rfl) (ev1 rfl) (fun _ => rfl) (by decide) (by omega) (by omega)) ?_
      refine walk_r rfl rfl rfl (op_ldwd rfl tb68 (ev1 rfl) rfl) ?_
      refine walk_w rfl rfl rfl (op_alloc 3 rfl zr68 rfl) (by simp only [upd, List.set_cons_zero, List.set_cons_succ]; exact rfl) ?_
      refine walk_r rfl rfl rfl (op_move (.inr rfl) (ev1 rfl)) ?_
      refine walk_s rfl rfl (op_stwa rfl tb68 (ev1 rfl) (ev1 rfl) rfl rfl rfl rfl) (by simp only [upd, List.set_cons_zero, List.set_cons_succ]; exact rfl) ?_
      refine walk_nil ?_
      refine dwp_seq ?_
      refine dwp_seq ?_
      refine dwp_region ?_
      refine walk_r rfl rfl rfl (op_move (.inl rfl) (ev1 rfl)) ?_
      refine walk_r rfl rfl rfl (op_eql rfl (ev1 rfl) (ev1 rfl)) ?_
      refine walk_nil ?_
      refine dwp_cond rfl (fun c5 => ?_) (fun c5 => ?_)
      · try simp only [decide_eq_true_eq, decide_eq_false_iff_not, beq_iff_eq, bne_iff_ne, beq_eq_false_iff_ne, bne_eq_false_iff_eq, Bool.not_eq_true', Bool.not_eq_false', Bool.and_eq_true, Bool.or_eq_true, Bool.or_eq_false_iff, ne_eq, Decidable.not_not, Int.not_lt, Int.not_le] at c5
        refine dwp_exit ?_
        refine dwp_seq ?_
        refine dwp_region ?_
        refine walk_r rfl rfl rfl (op_move (.inr rfl) (ev1 rfl)) ?_
        refine walk_nil ?_
        refine dwp_ret ?_
        refine kend0 (rs1 rfl (rv_t rfl)) rfl ?_
        rfl
      · try simp only [decide_eq_true_eq, decide_eq_false_iff_not, beq_iff_eq, bne_iff_ne, beq_eq_false_iff_ne, bne_eq_false_iff_eq, Bool.not_eq_true', Bool.not_eq_false', Bool.and_eq_true, Bool.or_eq_true, Bool.or_eq_false_iff, ne_eq, Decidable.not_not, Int.not_lt, Int.not_le] at c5
        have hi60 : ¬ i = 60 := by omega
        refine dwp_skip ?_
        refine dwp_seq ?_
        have hw := u64_bd l[i].s
        have hri := hr l[i] (List.getElem_mem _)
        unfold T3.rng at hri
        refine dwp_region ?_
        refine walk_r rfl rfl rfl (op_fa rfl fo68_0 (ev1 rfl)) ?_
        refine walk_r rfl rfl rfl (op_ldo rfl tb3 (ev1 rfl) rfl rfl) ?_
        refine walk_r rfl rfl rfl (op_conv ty3 kn69 rfl (ev1 rfl)) ?_
        refine walk_r rfl rfl rfl (op_rem' rfl (ev1 rfl) (ev1 rfl) (fun _ => ⟨by omega, by omega⟩)) ?_
        refine walk_r rfl rfl rfl (op_conv' ty69 kn3 rfl (ev1 rfl) (fun _ => IntWalk.i64_in _ (by omega))) ?_
        refine walk_r rfl rfl rfl (op_add' rfl (ev1 rfl) (ev1 rfl) (fun _ => IntWalk.i64_in _ (by omega))) ?_
        refine walk_r rfl rfl rfl (op_move (.inr rfl) (ev1 rfl)) ?_
        refine walk_nil ?_
        refine dwp_seq ?_
        refine dwp_seq ?_
        obtain ⟨n, hn, hn1, hn8⟩ : ∃ n : Nat, (1 + IntKind.u64.wrap l[i].s % 8 : Int) = n ∧ 1 ≤ n ∧ n ≤ 8 := ⟨(1 + IntKind.u64.wrap l[i].s % 8).toNat, by omega, by omega, by omega⟩
        rw [hn]
        have hat := hg.at_ n hn1 hn8
        obtain ⟨hok1, hok2, hok3⟩ := clk_ok hg hk.2 hn1 hn8
        have hmay := may_ok hg hk.2 hn1 hn8
        have hfr := fresh_id hg hn1 hn8
        have htt : 0 ≤ l[i].t % 1099511627776 ∧ l[i].t % 1099511627776 < 1099511627776 := by omega
        refine dwp_region ?_
        refine walk_r rfl rfl rfl (op_fa rfl fo68_1 (ev1 rfl)) ?_
        refine walk_r rfl rfl rfl (op_ldo rfl tb4 (ev1 rfl) rfl rfl) ?_
        refine walk_nil ?_
        refine dwp_cond rfl (fun hs => ?_) (fun hs => ?_)
        · refine dwp_seq ?_
          refine dwp_holes 1 (by simp only [holes, List.cons_append, List.nil_append]; exact rfl) ?_
          refine dwp_draw [([], []), ([], []), ([0], []), ([], []), ([3], []), ([], []), ([], []), ([], []), ([], []), ([], []), ([], []), ([4], [4]), ([4], [4]), ([], [])] mixed (by kernel_rfl) ?_
          refine lex_r rfl rfl (op_move (.inl rfl) (ev1 rfl)) ?_
          refine lex_r rfl rfl (op_ixfr (j := n) rfl ar64 (ev1 rfl) (ev1 rfl) (fun _ => by omega) (fun _ => by omega)) ?_
          refine lex_r rfl rfl (op_ldfr (zC) rfl tb40 (ev1 rfl) rfl (fun _ => rfl) (fun _ => by first | omega | (rw [csK_len]; omega))) ?_
          refine lex_r rfl rfl (op_fa rfl fo68_2 (ev1 rfl)) ?_
          refine lex_r rfl rfl (op_ldo rfl tb25 (ev1 rfl) rfl rfl) ?_
          refine lex_r rfl rfl (op_rem' rfl (ev1 rfl) (ev1 rfl) (fun _ => ⟨by omega, by omega⟩)) ?_
          refine lex_r rfl rfl (op_bs (ps := [(0, .tmp 57)]) rfl sl37 zr25 rfl (vc (ev1 rfl) vn) rfl (by decide) (by decide)) ?_
          refine lex_r rfl rfl (dop_call [] [] [] rfl (ev1 rfl) (ec (ev1 rfl) (ec (ev1 rfl) en)) rfl rfl (seeOk_d hok1 htt.2) rfl rfl rfl rfl rfl rfl) ?_
          refine lex_r rfl rfl (op_move (.inl rfl) (ev1 rfl)) ?_
          refine lex_r rfl rfl (op_ext rfl (ev1 rfl) rfl) ?_
          refine lex_r rfl rfl (op_ext rfl (ev1 rfl) rfl) ?_
          refine lex_w rfl rfl (op_alloc 4 rfl zr40 rfl) rfl (by simp only [upd, List.set_cons_zero, List.set_cons_succ]; exact rfl) ?_
          refine lex_s rfl rfl (op_stwa rfl tb40 (ev1 rfl) (ev1 rfl) rfl rfl rfl rfl) rfl (by simp only [upd, List.set_cons_zero, List.set_cons_succ]; exact rfl) ?_
          refine lex_r rfl rfl (op_move (.inr rfl) (ev1 rfl)) ?_
          refine lex_nil ?_
          refine dwp_seq ?_
          refine dwp_seq ?_
          refine dwp_draw [([], []), ([], []), ([], []), ([], []), ([4], []), ([], []), ([], []), ([], []), ([0], []), ([], []), ([], []), ([], []), ([], []), ([4], []), ([], []), ([3], []), ([], []), ([], []), ([], []), ([], []), ([], []), ([4], []), ([], []), ([], []), ([], []), ([0], []), ([], []), ([], [])] mixed (by kernel_rfl) ?_
          refine lex_r rfl rfl (op_move (.inl rfl) (ev1 rfl)) ?_
          refine lex_r rfl rfl (op_neq rfl (ev1 rfl) (ev1 rfl)) ?_
          refine lex_r rfl rfl (op_move (.inl rfl) (ev1 rfl)) ?_
          refine lex_gr (gd_f rfl rfl rfl) rfl rfl (op_fa rfl fo40_1 (ev1 rfl)) ?_
          refine lex_gr (gd_f rfl rfl rfl) rfl rfl (op_ldo rfl tb25 (ev2 rfl) rfl rfl) ?_
          refine lex_gr (gd_f rfl rfl rfl) rfl rfl (op_move (.inl rfl) (ev1 rfl)) ?_
          refine lex_gr (gd_f rfl rfl rfl) rfl rfl (op_ixfr (j := n) rfl ar64 (ev1 rfl) (ev2 rfl) (fun hp => by first | omega | (simp at hp; omega)) (fun hp => by first | omega | (simp at hp; omega))) ?_
          refine lex_gr (gd_f rfl rfl rfl) rfl rfl (op_fa rfl fo40_1 (ev2 rfl)) ?_
          refine lex_gr (gd_f rfl rfl rfl) rfl rfl (op_ldff (j := n) (c := 1) (zC) rfl tb25 (ev2 rfl) rfl (fun _ => rfl) (fun _ => by first | omega | (rw [csK_len]; omega)) (by decide) rfl) ?_
          refine lex_gr (gd_f rfl rfl rfl) rfl rfl (op_lss rfl (ev2 rfl) (ev2 rfl)) ?_
          refine lex_r rfl rfl (op_or rfl (ev1 rfl) (ev3 rfl id)) ?_
          refine lex_r rfl rfl (op_move (.inl rfl) (ev1 rfl)) ?_
          refine lex_gr (gd_f rfl rfl rfl) rfl rfl (op_fa rfl fo40_1 (ev1 rfl)) ?_
          refine lex_gr (gd_f rfl rfl rfl) rfl rfl (op_ldo rfl tb25 (ev2 rfl) rfl rfl) ?_
          refine lex_gr (gd_f rfl rfl rfl) rfl rfl (op_fa rfl fo68_2 (ev1 rfl)) ?_
          refine lex_gr (gd_f rfl rfl rfl) rfl rfl (op_ldo rfl tb25 (ev2 rfl) rfl rfl) ?_
          refine lex_gr (gd_f rfl rfl rfl) rfl rfl (op_rem' rfl (ev2 rfl) (ev1 rfl) (fun _ => ⟨by omega, by omega⟩)) ?_
          refine lex_gr (gd_f rfl rfl rfl) rfl rfl (op_lss rfl (ev2 rfl) (ev2 rfl)) ?_
          refine lex_r rfl rfl (op_or rfl (ev1 rfl) (ev3 rfl id)) ?_
          refine lex_r rfl rfl (op_move (.inl rfl) (ev1 rfl)) ?_
          refine lex_gr (gd_f rfl rfl rfl) rfl rfl (op_fa rfl fo40_2 (ev1 rfl)) ?_
          refine lex_gr (gd_f rfl rfl rfl) rfl rfl (op_ldo rfl tb25 (ev2 rfl) rfl rfl) ?_
          refine lex_gr (gd_f rfl rfl rfl) rfl rfl (op_move (.inl rfl) (ev1 rfl)) ?_
          refine lex_gr (gd_f rfl rfl rfl) rfl rfl (op_ixfr (j := n) rfl ar64 (ev1 rfl) (ev2 rfl) (fun hp => by first | omega | (simp at hp; omega)) (fun hp => by first | omega | (simp at hp; omega))) ?_
          refine lex_gr (gd_f rfl rfl rfl) rfl rfl (op_fa rfl fo40_2 (ev2 rfl)) ?_
          refine lex_gr (gd_f rfl rfl rfl) rfl rfl (op_ldff (j := n) (c := 2) (zC) rfl tb25 (ev2 rfl) rfl (fun _ => rfl) (fun _ => by first | omega | (rw [csK_len]; omega)) (by decide) rfl) ?_
          refine lex_gr (gd_f rfl rfl rfl) rfl rfl (op_neq rfl (ev2 rfl) (ev2 rfl)) ?_
          refine lex_r rfl rfl (op_or rfl (ev1 rfl) (ev3 rfl id)) ?_
          refine lex_nil ?_
          refine dwp_if_f rfl (by simp; omega) ?_
          refine dwp_skip ?_
          refine dwp_seq ?_
          refine dwp_region ?_
          refine walk_r rfl rfl rfl (op_move (.inl rfl) (ev1 rfl)) ?_
          refine walk_r rfl rfl rfl (op_ldw rfl tb40 (ev1 rfl) rfl rfl) ?_
          refine walk_r rfl rfl rfl (op_ixfr (j := n) rfl ar64 (ev1 rfl) (ev1 rfl) (fun _ => by omega) (fun _ => by omega)) ?_
          refine walk_s rfl rfl (op_stfr (q := ⟨(cs.getD n zC).s, max (cs.getD n zC).t (l[i].t % 1099511627776), (cs.getD n zC).q⟩) rfl tb40 (ev1 rfl) (ev1 rfl) rfl rfl rfl (fun _ => rfl) (fun _ => by first | omega | (rw [csK_len]; omega))) (by simp only [upd, List.set_cons_zero, List.set_cons_succ]; exact rfl) ?_
          refine walk_nil ?_
          refine dwp_exit ?_
          refine dwp_region ?_
          refine walk_r rfl rfl rfl (op_add' rfl (ev1 rfl) (ev1 rfl) (fun _ => IntWalk.i64_in _ (by omega))) ?_
          refine walk_r rfl rfl rfl (op_move (.inl rfl) (ev1 rfl)) ?_
          refine walk_nil ?_
          refine ⟨(i + 1, _, ls, m), [0, 1, 2], ⟨by dsimp only; omega, ginv_see hg hn1 hn8 htt⟩, by dsimp only; omega, rfl, ⟨rfl, rfl, rfl, rfl, rfl, rfl, trivial⟩, ⟨rfl, rfl, rfl, trivial⟩⟩
        · refine dwp_skip ?_
          refine dwp_seq ?_
          refine dwp_holes 2 (by simp only [holes, List.cons_append, List.nil_append]; exact rfl) ?_
          refine dwp_region ?_
          refine walk_r rfl rfl rfl (op_move (.inl rfl) (ev1 rfl)) ?_
          refine walk_r rfl rfl rfl (op_ixfr (j := n) rfl ar64 (ev1 rfl) (ev1 rfl) (fun _ => by omega) (fun _ => by omega)) ?_
          refine walk_r rfl rfl rfl (op_ldfr (zC) rfl tb40 (ev1 rfl) rfl (fun _ => rfl) (fun _ => by first | omega | (rw [csK_len]; omega))) ?_
          refine walk_r rfl rfl rfl (dop_call [] [] [] rfl (ev1 rfl) (ec (ev1 rfl) en) rfl rfl (nextOk_d hok1 hok2 hok3) rfl rfl rfl rfl rfl rfl) ?_
          refine walk_r rfl rfl rfl (op_move (.inl rfl) (ev1 rfl)) ?_
          refine walk_r rfl rfl rfl (op_ext rfl (ev1 rfl) rfl) ?_
          refine walk_r rfl rfl rfl (op_ext rfl (ev1 rfl) rfl) ?_
          refine walk_r rfl rfl rfl (op_ext rfl (ev1 rfl) rfl) ?_
          refine walk_w rfl rfl rfl (op_alloc 4 rfl zr40 rfl) (by simp only [upd, List.set_cons_zero, List.set_cons_succ]; exact rfl) ?_
          refine walk_w rfl rfl rfl (op_alloc 5 rfl zr27 rfl) (by simp only [upd, List.set_cons_zero, List.set_cons_succ]; exact rfl) ?_
          refine walk_s rfl rfl (op_stwa rfl tb40 (ev1 rfl) (ev1 rfl) rfl rfl rfl rfl) (by simp only [upd, List.set_cons_zero, List.set_cons_succ]; exact rfl) ?_
          refine walk_s rfl rfl (op_stwa rfl tb27 (ev1 rfl) (ev1 rfl) rfl rfl rfl rfl) (by simp only [upd, List.set_cons_zero, List.set_cons_succ]; exact rfl) ?_
          refine walk_r rfl rfl rfl (op_move (.inr rfl) (ev1 rfl)) ?_
          refine walk_nil ?_
          refine dwp_seq ?_
          refine dwp_seq ?_
          refine dwp_draw [([], []), ([], []), ([], []), ([5], []), ([], []), ([], []), ([], []), ([], []), ([], []), ([5], []), ([], []), ([], []), ([], []), ([], []), ([], []), ([5], []), ([], []), ([], []), ([], []), ([0], []), ([], []), ([], []), ([], []), ([], []), ([5], []), ([], []), ([], []), ([], []), ([2], []), ([], []), ([], []), ([], []), ([], []), ([], []), ([5], []), ([1], []), ([], []), ([], [])] mixed (by kernel_rfl) ?_
          refine lex_r rfl rfl (op_move (.inl rfl) (ev1 rfl)) ?_
          refine lex_r rfl rfl (op_neq rfl (ev1 rfl) (ev1 rfl)) ?_
          refine lex_r rfl rfl (op_move (.inl rfl) (ev1 rfl)) ?_
          refine lex_gr (gd_f rfl rfl rfl) rfl rfl (op_ldw rfl tb27 (ev1 rfl) rfl rfl) ?_
          refine lex_gr (gd_f rfl rfl rfl) rfl rfl (dop_call [] [] [] rfl (ev1 rfl) (ec (ev2 rfl) en) rfl rfl (checkOk_d hmay) rfl rfl rfl rfl rfl rfl) ?_
          refine lex_gr (gd_f rfl rfl rfl) rfl rfl (op_neq rfl (ev2 rfl) (ev1 rfl)) ?_
          refine lex_r rfl rfl (op_or rfl (ev1 rfl) (ev3 rfl id)) ?_
          refine lex_r rfl rfl (op_move (.inl rfl) (ev1 rfl)) ?_
          refine lex_gr (gd_f rfl rfl rfl) rfl rfl (op_fa rfl fo27_1 (ev1 rfl)) ?_
          refine lex_gr (gd_f rfl rfl rfl) rfl rfl (op_ldo rfl tb3 (ev2 rfl) rfl rfl) ?_
          refine lex_gr (gd_f rfl rfl rfl) rfl rfl (op_move (.inl rfl) (ev1 rfl)) ?_
          refine lex_gr (gd_f rfl rfl rfl) rfl rfl (op_neq rfl (ev2 rfl) (ev2 rfl)) ?_
          refine lex_r rfl rfl (op_or rfl (ev1 rfl) (ev3 rfl id)) ?_
          refine lex_r rfl rfl (op_move (.inl rfl) (ev1 rfl)) ?_
          refine lex_gr (gd_f rfl rfl rfl) rfl rfl (op_fa rfl fo27_0 (ev1 rfl)) ?_
          refine lex_gr (gd_f rfl rfl rfl) rfl rfl (op_ldo rfl tb25 (ev2 rfl) rfl rfl) ?_
          refine lex_gr (gd_f rfl rfl rfl) rfl rfl (op_move (.inl rfl) (ev1 rfl)) ?_
          refine lex_gr (gd_f rfl rfl rfl) rfl rfl (op_ixfr (j := n) rfl ar64 (ev1 rfl) (ev2 rfl) (fun hp => by first | omega | (simp at hp; omega)) (fun hp => by first | omega | (simp at hp; omega))) ?_
          refine lex_gr (gd_f rfl rfl rfl) rfl rfl (op_fa rfl fo40_1 (ev2 rfl)) ?_
          refine lex_gr (gd_f rfl rfl rfl) rfl rfl (op_ldff (j := n) (c := 1) (zC) rfl tb25 (ev2 rfl) rfl (fun _ => rfl) (fun _ => by first | omega | (rw [csK_len]; omega)) (by decide) rfl) ?_
          refine lex_gr (gd_f rfl rfl rfl) rfl rfl (op_leq rfl (ev2 rfl) (ev2 rfl)) ?_
          refine lex_r rfl rfl (op_or rfl (ev1 rfl) (ev3 rfl id)) ?_
          refine lex_r rfl rfl (op_move (.inl rfl) (ev1 rfl)) ?_
          refine lex_gr (gd_f rfl rfl rfl) rfl rfl (op_fa rfl fo27_2 (ev1 rfl)) ?_
          refine lex_gr (gd_f rfl rfl rfl) rfl rfl (op_ldo rfl tb25 (ev2 rfl) rfl rfl) ?_
          refine lex_gr (gd_f rfl rfl rfl) rfl rfl (op_move (.inl rfl) (ev1 rfl)) ?_
          refine lex_gr (gd_f rfl rfl rfl) rfl rfl (op_ixfr (j := n) rfl ar66 (ev1 rfl) (ev2 rfl) (fun hp => by first | omega | (simp at hp; omega)) (fun hp => by first | omega | (simp at hp; omega))) ?_
          refine lex_gr (gd_f rfl rfl rfl) rfl rfl (op_fa rfl fo27_2 (ev2 rfl)) ?_
          refine lex_gr (gd_f rfl rfl rfl) rfl rfl (op_ldff (j := n) (c := 2) (zI) rfl tb25 (ev2 rfl) rfl (fun _ => rfl) (fun _ => by omega) (by decide) rfl) ?_
          refine lex_gr (gd_f rfl rfl rfl) rfl rfl (op_add' rfl (ev2 rfl) (ev1 rfl) (fun hp => IntWalk.u64_in _ (by first | omega | (simp at hp; omega)))) ?_
          refine lex_gr (gd_f rfl rfl rfl) rfl rfl (op_neq rfl (ev2 rfl) (ev2 rfl)) ?_
          refine lex_r rfl rfl (op_or rfl (ev1 rfl) (ev3 rfl id)) ?_
          refine lex_r rfl rfl (op_move (.inl rfl) (ev1 rfl)) ?_
          refine lex_gr (gd_f rfl rfl rfl) rfl rfl (op_move (.inl rfl) (ev1 rfl)) ?_
          refine lex_gr (gd_f rfl rfl rfl) rfl rfl (op_ldw rfl tb27 (ev1 rfl) rfl rfl) ?_
          refine lex_gr (gd_f rfl rfl rfl) rfl rfl (op_lkp mp65 zv3 keyI rfl (ev2 rfl) (ev2 rfl) rfl) ?_
          refine lex_gr (gd_f rfl rfl rfl) rfl rfl (op_gtr rfl (ev2 rfl) (ev1 rfl)) ?_
          refine lex_r rfl rfl (op_or rfl (ev1 rfl) (ev3 rfl id)) ?_
          refine lex_nil ?_
          refine dwp_if_f rfl (or6 _ _ _ _ _ _ rfl rfl (bne_no hat.1) (decide_eq_false (by show ¬ (cs.getD n zC).t + 1 ≤ (cs.getD n zC).t; omega)) (bne_no (by show (cs.getD n zC).q + 1 = _; omega)) (decide_eq_false hfr)) ?_
          refine dwp_skip ?_
          refine dwp_seq ?_
          refine dwp_seq ?_
          refine dwp_draw [([], []), ([], []), ([], []), ([2], []), ([], []), ([], []), ([], []), ([], []), ([2], []), ([5], []), ([], []), ([], []), ([], [])] mixed (by kernel_rfl) ?_
          refine lex_r rfl rfl (op_move (.inl rfl) (ev1 rfl)) ?_
          refine lex_r rfl rfl (op_ixfr (j := n) rfl ar66 (ev1 rfl) (ev1 rfl) (fun _ => by omega) (fun _ => by omega)) ?_
          refine lex_r rfl rfl (op_fa rfl fo27_2 (ev1 rfl)) ?_
          refine lex_r rfl rfl (op_ldff (j := n) (c := 2) (zI) rfl tb25 (ev1 rfl) rfl (fun _ => rfl) (fun _ => by omega) (by decide) rfl) ?_
          refine lex_r rfl rfl (op_gtr rfl (ev1 rfl) (ev1 rfl)) ?_
          refine lex_r rfl rfl (op_move (.inl rfl) (ev1 rfl)) ?_
          refine lex_gr (gd_t rfl rfl rfl) rfl rfl (op_move (.inl rfl) (ev1 rfl)) ?_
          refine lex_gr (gd_t rfl rfl rfl) rfl rfl (op_ixfr (j := n) rfl ar66 (ev1 rfl) (ev2 rfl) (fun hp => by first | omega | (simp at hp; omega)) (fun hp => by first | omega | (simp at hp; omega))) ?_
          refine lex_gr (gd_t rfl rfl rfl) rfl rfl (op_ldfr (zI) rfl tb27 (ev2 rfl) rfl (fun _ => rfl) (fun _ => by omega)) ?_
          refine lex_gr (gd_t rfl rfl rfl) rfl rfl (op_ldw rfl tb27 (ev1 rfl) rfl rfl) ?_
          refine lex_gr (gd_t rfl rfl rfl) rfl rfl (dop_call [] [] [] rfl (ev1 rfl) (ec (ev2 rfl) (ec (ev2 rfl) en)) rfl rfl (lessC_d _ _) rfl rfl rfl rfl rfl rfl) ?_
          refine lex_gr (gd_t rfl rfl rfl) rfl rfl (op_not rfl (ev2 rfl)) ?_
          refine lex_r rfl rfl (op_and rfl (ev1 rfl) (ev3 rfl id)) ?_
          refine lex_nil ?_
          refine dwp_if_f rfl (by rw [less_t (a := ls.getD n zI) (b := stepI (cs.getD n zC)) (by simp only [stepI]; omega)]; simp) ?_
          refine dwp_skip ?_
          refine dwp_draw [([], []), ([5], []), ([], []), ([], []), ([5], []), ([4], []), ([1], [1]), ([], []), ([2], [2]), ([], []), ([0], [0])] mixed (by kernel_rfl) ?_
          refine lex_r rfl rfl (op_move (.inl rfl) (ev1 rfl)) ?_
          refine lex_r rfl rfl (op_ldw rfl tb27 (ev1 rfl) rfl rfl) ?_
          refine lex_r rfl rfl (op_move (.inl rfl) (ev1 rfl)) ?_
          refine lex_r rfl rfl (op_move (.inl rfl) (ev1 rfl)) ?_
          refine lex_r rfl rfl (op_ldw rfl tb27 (ev1 rfl) rfl rfl) ?_
          refine lex_r rfl rfl (op_ldw rfl tb40 (ev1 rfl) rfl rfl) ?_
          refine lex_s rfl rfl (op_mup mp65 keyI rfl (ev1 rfl) (ev1 rfl) (ev1 rfl) rfl) rfl (by simp only [upd, List.set_cons_zero, List.set_cons_succ]; exact rfl) ?_
          refine lex_r rfl rfl (op_ixfr (j := n) rfl ar66 (ev1 rfl) (ev1 rfl) (fun _ => by omega) (fun _ => by omega)) ?_
          refine lex_s rfl rfl (op_stfr (q := stepI (cs.getD n zC)) rfl tb27 (ev1 rfl) (ev1 rfl) rfl rfl rfl (fun _ => rfl) (fun _ => by omega)) rfl (by simp only [upd, List.set_cons_zero, List.set_cons_succ]; exact rfl) ?_
          refine lex_r rfl rfl (op_ixfr (j := n) rfl ar64 (ev1 rfl) (ev1 rfl) (fun _ => by omega) (fun _ => by omega)) ?_
          refine lex_s rfl rfl (op_stfr (q := stepC (cs.getD n zC)) rfl tb40 (ev1 rfl) (ev1 rfl) rfl rfl rfl (fun _ => rfl) (fun _ => by first | omega | (rw [csK_len]; omega))) rfl (by simp only [upd, List.set_cons_zero, List.set_cons_succ]; exact rfl) ?_
          refine lex_nil ?_
          refine dwp_region ?_
          refine walk_r rfl rfl rfl (op_add' rfl (ev1 rfl) (ev1 rfl) (fun _ => IntWalk.i64_in _ (by omega))) ?_
          refine walk_r rfl rfl rfl (op_move (.inl rfl) (ev1 rfl)) ?_
          refine walk_nil ?_
          refine ⟨(i + 1, _, _, _), [0, 1, 2], ⟨by dsimp only; omega, ginv_next hg hn1 hn8⟩, by dsimp only; omega, rfl, ⟨rfl, rfl, rfl, rfl, rfl, rfl, trivial⟩, ⟨rfl, rfl, rfl, trivial⟩⟩
    · try simp only [decide_eq_true_eq, decide_eq_false_iff_not, beq_iff_eq, bne_iff_ne, beq_eq_false_iff_ne, bne_eq_false_iff_eq, Bool.not_eq_true', Bool.not_eq_false', Bool.and_eq_true, Bool.or_eq_true, Bool.or_eq_false_iff, ne_eq, Decidable.not_not, Int.not_lt, Int.not_le] at c4
      refine dwp_exit ?_
      refine dwp_seq ?_
      refine dwp_region ?_
      refine walk_r rfl rfl rfl (op_move (.inr rfl) (ev1 rfl)) ?_
      refine walk_nil ?_
      refine dwp_ret ?_
      refine kend0 (rs1 rfl (rv_t rfl)) rfl ?_
      rfl

end Go.Proofs.YtaekkjhpdendoaaDoor
