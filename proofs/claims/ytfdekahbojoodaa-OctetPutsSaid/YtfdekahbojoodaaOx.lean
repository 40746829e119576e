/- the law of numbers, walked -/
import Derived.Test.YtfdekahbojoodaaOw
namespace Go.Proofs.Ytfdekahbojoodaa
set_option linter.unusedVariables false
set_option linter.unusedSimpArgs false
open Go.RowKit

structure Nm where
  at_ : Int
  w : Int
  n : Int
def nm3 (p : Nm) : List Value := [.int .i64 p.at_, .int .i64 p.w, .int .u64 p.n]
def Nm.rng (p : Nm) : Prop := (-9223372036854775808 ≤ p.at_ ∧ p.at_ ≤ 9223372036854775807) ∧ (-9223372036854775808 ≤ p.w ∧ p.w ≤ 9223372036854775807) ∧ (0 ≤ p.n ∧ p.n ≤ 18446744073709551615)
theorem numN_at {b : List Int} {i w : Nat} (h : i + w ≤ b.length) : numN ((b.drop i).take (i + w - i)).length ((b.drop i).take (i + w - i)) = numN w (b.drop i) := by
  rw [show i + w - i = w by omega, numN_self w (by rw [List.length_drop]; omega)]

set_option maxRecDepth 4000 in
set_option maxHeartbeats 1000000 in
theorem put_oo (l : List Int) (w : Nat) (n : Int) (hl : l.length ≤ 90000) (h : 1 ≤ w ∧ w ≤ 8) (hf : fitsN w n = true) : DFun Try.prog 10 [.slf 1 l.length (l.flatMap uc8), .val (.int .i64 (w : Int)), .val (.int .u64 n)] [] (.tup [.arr 0, .val (.int .i64 0)]) [.arr 5 1 (l ++ bytesN w n).length ((l ++ bytesN w n).flatMap uc8)] := by
  refine dcalls_body (N := 18) 0 (by kernel_rfl) Try.func10 rfl rfl rfl (by simp only [fr0, Nat.zero_add, Nat.reduceAdd]; exact rfl) rfl fun s0 hs0 => ?_
  refine dbody_seq rfl hs0 ?_
  refine dwp_holes 1 (by simp only [holes, List.cons_append, List.nil_append]; exact rfl) ?_
  refine dwp_region ?_
  refine walk_r rfl rfl rfl (op_move (.inr rfl) (ev1 rfl)) ?_
  refine walk_w rfl rfl rfl (op_alloc 0 rfl zr29 rfl) (by simp only [upd, List.set_cons_zero, List.set_cons_succ]; exact rfl) ?_
  refine walk_nil ?_
  refine dbody_defer (l0 := [_]) rfl rfl rfl rfl rfl hs0 ?_
  refine walk_r rfl rfl rfl (op_mkf rfl en (ec (ev1 rfl) en)) ?_
  refine walk_nil ⟨_, _, _, 1, ev1 rfl, Nat.le_trans hs0 (by decide), rfl, ?_⟩
  have hs1 : s0.M.length ≤ 1 := Nat.le_trans hs0 (by decide)
  refine dbody_end rfl hs0 ?_
  refine dwp_seq ?_
  refine dwp_region ?_
  refine walk_r rfl rfl rfl (op_move (.inl rfl) (ev1 rfl)) ?_
  refine walk_r rfl rfl rfl (op_bs (ps := [(0, .tmp 9)]) rfl sl41 zr3 rfl (vc (ev1 rfl) vn) rfl (by decide) (by decide)) ?_
  refine walk_r rfl rfl rfl (dop_call [] [] [] rfl (ev1 rfl) (ec (ev1 rfl) en) rfl rfl (need_ok [(w : Int)] (by simp [isW_iff]; omega)) rfl rfl rfl rfl rfl rfl) ?_
  refine walk_nil ?_
  refine dwp_seq ?_
  refine dwp_holes 1 (by simp only [holes, List.cons_append, List.nil_append]; exact rfl) ?_
  refine dwp_region ?_
  refine walk_r rfl rfl rfl (op_move (.inl rfl) (ev1 rfl)) ?_
  refine walk_r rfl rfl rfl (op_move (.inl rfl) (ev1 rfl)) ?_
  refine walk_r rfl rfl rfl (op_move (.inl rfl) (ev1 rfl)) ?_
  refine walk_r rfl rfl rfl (dop_call [] [] [] rfl (ev1 rfl) (ec (ev1 rfl) (ec (ev1 rfl) en)) rfl rfl (nb_ok w h n hf) rfl rfl rfl rfl rfl rfl) ?_
  refine walk_r rfl rfl rfl (op_bsm (ps := [(0, .tmp 12), (1, .tmp 15)]) rfl sl63 zr22 rfl (ec (ev1 rfl) (ec (ev1 rfl) en)) rfl (by decide)) ?_
  refine walk_w rfl rfl rfl (dop_call [] [] [1] rfl (ev1 rfl) (ec (ev1 rfl) en) rfl rfl (behind2_o _ _ (by rw [bytesN_len h.2]; omega)) rfl rfl rfl rfl rfl rfl) (by simp only [upd, List.set_cons_zero, List.set_cons_succ]; exact rfl) ?_
  refine walk_r rfl rfl rfl (op_move (.inr rfl) (ev1 rfl)) ?_
  refine walk_s rfl rfl (op_stwi rfl tb29 (ev1 rfl) (ev1 rfl) rfl) (by simp only [upd, List.set_cons_zero, List.set_cons_succ]; exact rfl) ?_
  refine walk_nil ?_
  refine dwp_ret ?_
  refine kdef (dturn_idle [0] [] rfl rfl (put1_idle _) rfl rfl rfl rfl rfl) ?_
  refine kend [1] (rs2 rfl (rv_t rfl) (rv_1 tb29 rfl rfl rfl)) rfl rfl ?_ ⟨rfl, trivial⟩
  rfl

set_option maxRecDepth 4000 in
set_option maxHeartbeats 1000000 in
theorem puts_d (z : List Int) (l : List Nm) (hz : isBs z) (hr : ∀ p ∈ l, p.rng) : DFun Try.prog 3 [.slf 1 (z).length ((z).flatMap uc8), .slf 3 (l).length ((l).flatMap nm3)] [] (.val (.bool true)) [] := by
  refine dcalls_go (N := 131) 0 (by kernel_rfl) Try.func3 rfl rfl rfl (by simp only [fr0, Nat.zero_add, Nat.reduceAdd]; exact rfl) rfl fun s0 hs0 => ?_
  refine dwp_len (t := 0) rfl fun hl0 hL0 => ?_
  refine dwp_len (t := 1) rfl fun hl1 hL1 => ?_
  refine dwp_seq ?_
  refine dwp_region ?_
  refine walk_r rfl rfl rfl (op_move (.inr rfl) (ev1 rfl)) ?_
  refine walk_nil ?_
  refine dwp_seq ?_
  refine dwp_seq ?_
  refine dwp_region ?_
  refine walk_r rfl rfl rfl (dop_call [] [] [] rfl (ev1 rfl) en rfl rfl (wakes_d) rfl rfl rfl rfl rfl rfl) ?_
  refine walk_r rfl rfl rfl (op_not rfl (ev1 rfl)) ?_
  refine walk_nil ?_
  refine dwp_if_f rfl (rfl) ?_
  refine dwp_skip ?_
  refine dwp_seq ?_
  refine dwp_region ?_
  refine walk_r rfl rfl rfl (op_move (.inl rfl) (ev1 rfl)) ?_
  refine walk_r rfl rfl rfl (dop_call [] [] [] rfl (ev1 rfl) (ec (ev1 rfl) en) rfl rfl (few_d _) rfl rfl rfl rfl rfl rfl) ?_
  refine walk_r rfl rfl rfl (op_move (.inr rfl) (ev1 rfl)) ?_
  refine walk_nil ?_
  refine dwp_seq ?_
  refine dwp_seq ?_
  obtain ⟨b, hb⟩ : ∃ q, q = z.take (min z.length 60) := ⟨_, rfl⟩
  rw [← hb]
  obtain ⟨tb, lb, lb2⟩ := take_self hb
  have bb : isBs b := hb ▸ isBs_take hz _
  refine dwp_region ?_
  refine walk_r rfl rfl rfl (op_move (.inl rfl) (ev1 rfl)) ?_
  refine walk_r rfl rfl rfl (op_len rfl sl23 (ev1 rfl)) ?_
  refine walk_r rfl rfl rfl (op_move (.inl rfl) (ev1 rfl)) ?_
  refine walk_nil ?_
  refine dwp_block ?_
  refine dwp_loopS ⟨hs0, rfl⟩ (α := Nat) (fun k => [(23, .val (.int .i64 (k : Int)))]) [(0, _), (5, _), (21, _), (22, _)] (fun k => []) [] (fun k => k ≤ l.length) (fun k => l.length - k) 0 [] (by simp) rfl ⟨rfl, rfl, rfl, rfl, trivial⟩ ⟨rfl, trivial⟩ trivial ?_
  intro k hx
  simp only [upd, List.set_cons_zero, List.set_cons_succ, List.cons_append, List.nil_append]
  have hk := hx
  refine dwp_seq ?_
  refine dwp_region ?_
  refine walk_r rfl rfl rfl (op_lss rfl (ev1 rfl) (ev1 rfl)) ?_
  refine walk_nil ?_
  refine dwp_seq ?_
  refine dwp_cond rfl (fun c2 => ?_) (fun c2 => ?_)
  · try simp only [decide_eq_true_eq, decide_eq_false_iff_not, beq_iff_eq, bne_iff_ne, beq_eq_false_iff_ne, bne_eq_false_iff_eq, Bool.not_eq_true', Bool.not_eq_false', Bool.and_eq_true, Bool.or_eq_true, Bool.or_eq_false_iff, ne_eq, Decidable.not_not, Int.not_lt, Int.not_le] at c2
    refine dwp_skip ?_
    refine dwp_seq ?_
    refine dwp_block ?_
    refine dwp_seq ?_
    refine dwp_holes 1 (by simp only [holes, List.cons_append, List.nil_append]; exact rfl) ?_
    refine dwp_region ?_
    refine walk_r rfl rfl rfl (op_move (.inl rfl) (ev1 rfl)) ?_
    refine walk_r rfl rfl rfl (op_ixsr (j := k) rfl sl23 (ev1 rfl) (ev1 rfl) (fun _ => rfl) (by decide) (by omega) (by omega)) ?_
    refine walk_r rfl rfl rfl (op_ldwd rfl tb28 (ev1 rfl) rfl) ?_
    refine walk_w rfl rfl rfl (op_alloc 0 rfl zr28 rfl) (by simp only [upd, List.set_cons_zero, List.set_cons_succ]; exact rfl) ?_
    refine walk_r rfl rfl rfl (op_move (.inr rfl) (ev1 rfl)) ?_
    refine walk_s rfl rfl (op_stwa rfl tb28 (ev1 rfl) (ev1 rfl) rfl rfl rfl rfl) (by simp only [upd, List.set_cons_zero, List.set_cons_succ]; exact rfl) ?_
    refine walk_nil ?_
    refine dwp_seq ?_
    refine dwp_seq ?_
    by_cases hw : isW l[k].w = true
    · have hrk := hr l[k] (List.getElem_mem _)
      generalize l[k] = p at hw hrk ⊢
      obtain ⟨pa, pw, pn⟩ := p
      dsimp only at hw
      have hnk : 0 ≤ pn ∧ pn ≤ 18446744073709551615 := hrk.2.2
      obtain ⟨w, rfl⟩ : ∃ w : Nat, pw = w := ⟨pw.toNat, by have := isW_iff.1 hw; omega⟩
      have hw8 : 1 ≤ w ∧ w ≤ 8 := by have := isW_iff.1 hw; omega
      rw [show nm3 ⟨pa, (w : Int), pn⟩ = [.int .i64 pa, .int .i64 w, .int .u64 pn] from rfl]
      refine dwp_region ?_
      refine walk_r rfl rfl rfl (op_move (.inl rfl) (ev1 rfl)) ?_
      refine walk_r rfl rfl rfl (op_eql rfl (ev1 rfl) (ev1 rfl)) ?_
      refine walk_nil ?_
      refine dwp_cond rfl (fun c3 => ?_) (fun c3 => ?_)
      · try simp only [decide_eq_true_eq, decide_eq_false_iff_not, beq_iff_eq, bne_iff_ne, beq_eq_false_iff_ne, bne_eq_false_iff_eq, Bool.not_eq_true', Bool.not_eq_false', Bool.and_eq_true, Bool.or_eq_true, Bool.or_eq_false_iff, ne_eq, Decidable.not_not, Int.not_lt, Int.not_le] at c3
        refine dwp_exit ?_
        refine dwp_seq ?_
        refine dwp_region ?_
        refine walk_r rfl rfl rfl (op_move (.inr rfl) (ev1 rfl)) ?_
        refine walk_nil ?_
        refine dwp_ret ?_
        refine kend0 (rs1 rfl (rv_t rfl)) rfl ?_
        rfl
      · try simp only [decide_eq_true_eq, decide_eq_false_iff_not, beq_iff_eq, bne_iff_ne, beq_eq_false_iff_ne, bne_eq_false_iff_eq, Bool.not_eq_true', Bool.not_eq_false', Bool.and_eq_true, Bool.or_eq_true, Bool.or_eq_false_iff, ne_eq, Decidable.not_not, Int.not_lt, Int.not_le] at c3
        refine dwp_skip ?_
        refine dwp_seq ?_
        by_cases hf : fitsN w pn = true
        · refine dwp_holes 1 (by simp only [holes, List.cons_append, List.nil_append]; exact rfl) ?_
          refine dwp_region ?_
          refine walk_r rfl rfl rfl (op_move (.inl rfl) (ev1 rfl)) ?_
          refine walk_r rfl rfl rfl (op_fa rfl fo28_1 (ev1 rfl)) ?_
          refine walk_r rfl rfl rfl (op_ldo rfl tb3 (ev1 rfl) rfl rfl) ?_
          refine walk_r rfl rfl rfl (op_fa rfl fo28_2 (ev1 rfl)) ?_
          refine walk_r rfl rfl rfl (op_ldo rfl tb26 (ev1 rfl) rfl rfl) ?_
          refine walk_w rfl rfl rfl (dop_call [] [] [1] rfl (ev1 rfl) (ec (ev1 rfl) (ec (ev1 rfl) (ec (ev1 rfl) en))) rfl rfl (put_oo b w pn (by omega) hw8 hf) rfl rfl rfl rfl rfl rfl) (by simp only [upd, List.set_cons_zero, List.set_cons_succ]; exact rfl) ?_
          refine walk_r rfl rfl rfl (op_move (.inl rfl) (ev1 rfl)) ?_
          refine walk_r rfl rfl rfl (op_ext rfl (ev1 rfl) rfl) ?_
          refine walk_r rfl rfl rfl (op_ext rfl (ev1 rfl) rfl) ?_
          refine walk_r rfl rfl rfl (op_move (.inr rfl) (ev1 rfl)) ?_
          refine walk_r rfl rfl rfl (op_move (.inr rfl) (ev1 rfl)) ?_
          refine walk_nil ?_
          refine dwp_seq ?_
          refine dwp_region ?_
          refine walk_r rfl rfl rfl (op_move (.inr rfl) (ev1 rfl)) ?_
          refine walk_nil ?_
          refine dwp_seq ?_
          refine dwp_region ?_
          refine walk_r rfl rfl rfl (op_move (.inr rfl) (ev1 rfl)) ?_
          refine walk_nil ?_
          refine dwp_seq ?_
          refine dwp_seq ?_
          refine dwp_region ?_
          refine walk_r rfl rfl rfl (op_fa rfl fo28_1 (ev1 rfl)) ?_
          refine walk_r rfl rfl rfl (op_ldo rfl tb3 (ev1 rfl) rfl rfl) ?_
          refine walk_r rfl rfl rfl (dop_call [] [] [] rfl (ev1 rfl) (ec (ev1 rfl) en) rfl rfl (refWidth_d _) rfl rfl rfl rfl rfl rfl) ?_
          refine walk_nil ?_
          refine dwp_if_t rfl (hw) ?_
          refine dwp_seq ?_
          refine dwp_region ?_
          refine walk_r rfl rfl rfl (op_move (.inr rfl) (ev1 rfl)) ?_
          refine walk_nil ?_
          refine dwp_seq ?_
          refine dwp_region ?_
          refine walk_r rfl rfl rfl (op_fa rfl fo28_1 (ev1 rfl)) ?_
          refine walk_r rfl rfl rfl (op_ldo rfl tb3 (ev1 rfl) rfl rfl) ?_
          refine walk_r rfl rfl rfl (op_fa rfl fo28_2 (ev1 rfl)) ?_
          refine walk_r rfl rfl rfl (op_ldo rfl tb26 (ev1 rfl) rfl rfl) ?_
          refine walk_r rfl rfl rfl (dop_call [] [] [] rfl (ev1 rfl) (ec (ev1 rfl) (ec (ev1 rfl) en)) rfl rfl (refFits_d w pn hnk (by omega)) rfl rfl rfl rfl rfl rfl) ?_
          refine walk_nil ?_
          refine dwp_if_t rfl (by rw [fits_eq hw8 hnk]; exact hf) ?_
          refine dwp_region ?_
          refine walk_r rfl rfl rfl (op_move (.inl rfl) (ev1 rfl)) ?_
          refine walk_r rfl rfl rfl (op_fa rfl fo28_1 (ev1 rfl)) ?_
          refine walk_r rfl rfl rfl (op_ldo rfl tb3 (ev1 rfl) rfl rfl) ?_
          refine walk_r rfl rfl rfl (op_fa rfl fo28_2 (ev1 rfl)) ?_
          refine walk_r rfl rfl rfl (op_ldo rfl tb26 (ev1 rfl) rfl rfl) ?_
          refine walk_r rfl rfl rfl (dop_call [] [] [] rfl (ev1 rfl) (ec (ev1 rfl) (ec (ev1 rfl) en)) rfl rfl (freeze (refLay_o w pn hnk (by omega)) rfl) rfl rfl rfl rfl rfl rfl) ?_
          refine walk_r rfl rfl rfl (dop_call [] [] [] rfl (ev1 rfl) (ec (ev1 rfl) (ec (ev1 rfl) en)) rfl rfl (freeze (refBehind_o b (layR pn w) (by rw [layR_len]; omega)) rfl) rfl rfl rfl rfl rfl rfl) ?_
          refine walk_r rfl rfl rfl (op_move (.inr rfl) (ev1 rfl)) ?_
          refine walk_r rfl rfl rfl (op_move (.inr rfl) (ev1 rfl)) ?_
          refine walk_nil ?_
          refine dwp_seq ?_
          refine dwp_region ?_
          refine walk_r rfl rfl rfl (op_move (.inl rfl) (ev1 rfl)) ?_
          refine walk_r rfl rfl rfl (op_fa rfl fo28_0 (ev1 rfl)) ?_
          refine walk_r rfl rfl rfl (op_ldo rfl tb3 (ev1 rfl) rfl rfl) ?_
          refine walk_r rfl rfl rfl (op_fa rfl fo28_1 (ev1 rfl)) ?_
          refine walk_r rfl rfl rfl (op_ldo rfl tb3 (ev1 rfl) rfl rfl) ?_
          refine walk_r rfl rfl rfl (dop_call [] [] [] rfl (ev1 rfl) (ec (ev1 rfl) (ec (ev1 rfl) (ec (ev1 rfl) en))) rfl rfl (get_m b pa w (by omega)) rfl rfl rfl rfl rfl rfl) ?_
          refine walk_r rfl rfl rfl (op_move (.inl rfl) (ev1 rfl)) ?_
          refine walk_r rfl rfl rfl (op_ext rfl (ev1 rfl) rfl) ?_
          refine walk_r rfl rfl rfl (op_ext rfl (ev1 rfl) rfl) ?_
          refine walk_r rfl rfl rfl (op_move (.inr rfl) (ev1 rfl)) ?_
          refine walk_r rfl rfl rfl (op_move (.inr rfl) (ev1 rfl)) ?_
          refine walk_nil ?_
          refine dwp_seq ?_
          refine dwp_region ?_
          refine walk_r rfl rfl rfl (op_move (.inr rfl) (ev1 rfl)) ?_
          refine walk_r rfl rfl rfl (op_move (.inr rfl) (ev1 rfl)) ?_
          refine walk_nil ?_
          refine dwp_seq ?_
          refine dwp_seq ?_
          refine dwp_region ?_
          refine walk_r rfl rfl rfl (op_fa rfl fo28_1 (ev1 rfl)) ?_
          refine walk_r rfl rfl rfl (op_ldo rfl tb3 (ev1 rfl) rfl rfl) ?_
          refine walk_r rfl rfl rfl (dop_call [] [] [] rfl (ev1 rfl) (ec (ev1 rfl) en) rfl rfl (refWidth_d _) rfl rfl rfl rfl rfl rfl) ?_
          refine walk_nil ?_
          refine dwp_if_t rfl (hw) ?_
          refine dwp_seq ?_
          refine dwp_region ?_
          refine walk_r rfl rfl rfl (op_move (.inr rfl) (ev1 rfl)) ?_
          refine walk_nil ?_
          refine dwp_seq ?_
          refine dwp_region ?_
          refine walk_r rfl rfl rfl (op_fa rfl fo28_0 (ev1 rfl)) ?_
          refine walk_r rfl rfl rfl (op_ldo rfl tb3 (ev1 rfl) rfl rfl) ?_
          refine walk_r rfl rfl rfl (op_geq rfl (ev1 rfl) (ev1 rfl)) ?_
          refine walk_r rfl rfl rfl (op_move (.inl rfl) (ev1 rfl)) ?_
          refine walk_gr (gd_t rfl rfl rfl) rfl rfl rfl (op_fa rfl fo28_0 (ev1 rfl)) ?_
          refine walk_gr (gd_t rfl rfl rfl) rfl rfl rfl (op_ldo rfl tb3 (ev2 rfl) rfl rfl) ?_
          refine walk_gr (gd_t rfl rfl rfl) rfl rfl rfl (op_move (.inl rfl) (ev1 rfl)) ?_
          refine walk_gr (gd_t rfl rfl rfl) rfl rfl rfl (op_len rfl sl22 (ev2 rfl)) ?_
          refine walk_gr (gd_t rfl rfl rfl) rfl rfl rfl (op_leq rfl (ev2 rfl) (ev2 rfl)) ?_
          refine walk_r rfl rfl rfl (op_and rfl (ev1 rfl) (ev3 rfl id)) ?_
          refine walk_nil ?_
          refine dwp_cond rfl (fun ha => ?_) (fun ha => ?_)
          · have ha1 : 0 ≤ pa ∧ pa ≤ (b.length : Int) := by simpa using ha
            obtain ⟨i, rfl⟩ := Int.eq_ofNat_of_zero_le ha1.1
            refine dwp_seq ?_
            refine dwp_region ?_
            refine walk_r rfl rfl rfl (op_move (.inr rfl) (ev1 rfl)) ?_
            refine walk_nil ?_
            refine dwp_seq ?_
            refine dwp_region ?_
            refine walk_r rfl rfl rfl (op_move (.inl rfl) (ev1 rfl)) ?_
            refine walk_r rfl rfl rfl (op_len rfl sl22 (ev1 rfl)) ?_
            refine walk_r rfl rfl rfl (op_fa rfl fo28_0 (ev1 rfl)) ?_
            refine walk_r rfl rfl rfl (op_ldo rfl tb3 (ev1 rfl) rfl rfl) ?_
            refine walk_r rfl rfl rfl (op_sub' rfl (ev1 rfl) (ev1 rfl) (fun _ => IntWalk.i64_in _ (by omega))) ?_
            refine walk_r rfl rfl rfl (op_fa rfl fo28_1 (ev1 rfl)) ?_
            refine walk_r rfl rfl rfl (op_ldo rfl tb3 (ev1 rfl) rfl rfl) ?_
            refine walk_r rfl rfl rfl (op_geq rfl (ev1 rfl) (ev1 rfl)) ?_
            refine walk_nil ?_
            refine dwp_cond rfl (fun hs => ?_) (fun hs => ?_)
            · have hs1 : i + w ≤ b.length := by simp at hs; omega
              have hen := numN_at hs1
              have eg : gotM b i w = (numN w (b.drop i), 0) := by unfold gotM; rw [if_pos hw, if_neg (by omega), if_neg (by omega)]; rfl
              refine dwp_region ?_
              refine walk_r rfl rfl rfl (op_move (.inl rfl) (ev1 rfl)) ?_
              refine walk_r rfl rfl rfl (op_fa rfl fo28_0 (ev1 rfl)) ?_
              refine walk_r rfl rfl rfl (op_ldo rfl tb3 (ev1 rfl) rfl rfl) ?_
              refine walk_r rfl rfl rfl (op_fa rfl fo28_0 (ev1 rfl)) ?_
              refine walk_r rfl rfl rfl (op_ldo rfl tb3 (ev1 rfl) rfl rfl) ?_
              refine walk_r rfl rfl rfl (op_fa rfl fo28_1 (ev1 rfl)) ?_
              refine walk_r rfl rfl rfl (op_ldo rfl tb3 (ev1 rfl) rfl rfl) ?_
              refine walk_r rfl rfl rfl (op_add' rfl (ev1 rfl) (ev1 rfl) (fun _ => IntWalk.i64_in _ (by omega))) ?_
              refine walk_r rfl rfl rfl (op_slmd (i := i) (j := i + w) rfl sl22 (ev1 rfl) (bd_some (ev1 rfl)) (bd_some (ev1 rfl)) (fun _ => by omega) (fun _ => by omega) (fun _ => by omega) (fun _ => rfl)) ?_
              refine walk_r rfl rfl rfl (dop_call [] [] [] rfl (ev1 rfl) (ec (ev1 rfl) en) rfl rfl (refNumber_d _ (isBs_take (isBs_drop bb _) _) (by rw [List.length_take]; omega)) rfl rfl rfl rfl rfl rfl) ?_
              refine walk_r rfl rfl rfl (op_move (.inr rfl) (ev1 rfl)) ?_
              refine walk_r rfl rfl rfl (op_move (.inr rfl) (ev1 rfl)) ?_
              refine walk_nil ?_
              refine dwp_seq ?_
              refine dwp_seq ?_
              refine dwp_region ?_
              refine walk_r rfl rfl rfl (op_move (.inl rfl) (ev1 rfl)) ?_
              refine walk_r rfl rfl rfl (op_move (.inl rfl) (ev1 rfl)) ?_
              refine walk_r rfl rfl rfl (op_neq rfl (ev1 rfl) (ev1 rfl)) ?_
              refine walk_r rfl rfl rfl (op_move (.inl rfl) (ev1 rfl)) ?_
              refine walk_gr (gd_f rfl rfl rfl) rfl rfl rfl (op_move (.inl rfl) (ev1 rfl)) ?_
              refine walk_gr (gd_f rfl rfl rfl) rfl rfl rfl (op_move (.inl rfl) (ev1 rfl)) ?_
              refine walk_gr (gd_f rfl rfl rfl) rfl rfl rfl (op_neq rfl (ev2 rfl) (ev2 rfl)) ?_
              refine walk_r rfl rfl rfl (op_or rfl (ev1 rfl) (ev3 rfl id)) ?_
              refine walk_r rfl rfl rfl (op_move (.inl rfl) (ev1 rfl)) ?_
              refine walk_gr (gd_f rfl rfl rfl) rfl rfl rfl (op_move (.inl rfl) (ev1 rfl)) ?_
              refine walk_gr (gd_f rfl rfl rfl) rfl rfl rfl (op_move (.inl rfl) (ev1 rfl)) ?_
              refine walk_gr (gd_f rfl rfl rfl) rfl rfl rfl (op_neq rfl (ev2 rfl) (ev2 rfl)) ?_
              refine walk_r rfl rfl rfl (op_or rfl (ev1 rfl) (ev3 rfl id)) ?_
              refine walk_r rfl rfl rfl (op_move (.inl rfl) (ev1 rfl)) ?_
              refine walk_gr (gd_f rfl rfl rfl) rfl rfl rfl (op_move (.inl rfl) (ev1 rfl)) ?_
              refine walk_gr (gd_f rfl rfl rfl) rfl rfl rfl (op_move (.inl rfl) (ev1 rfl)) ?_
              refine walk_gr (gd_f rfl rfl rfl) rfl rfl rfl (dop_call [] [1] [] rfl (ev1 rfl) (ec (ev2 rfl) (ec (ev2 rfl) en)) rfl rfl (same_d (b ++ bytesN w pn) (b ++ layR pn w)) rfl rfl rfl rfl rfl rfl) ?_
              refine walk_gr (gd_f rfl rfl rfl) rfl rfl rfl (op_not rfl (ev2 rfl)) ?_
              refine walk_r rfl rfl rfl (op_or rfl (ev1 rfl) (ev3 rfl id)) ?_
              refine walk_nil ?_
              refine dwp_if_f rfl (by first | (rw [eg, hen]; simp [bytes_lay _ w hw8]) | (rw [eg]; simp [bytes_lay _ w hw8])) ?_
              refine dwp_skip ?_
              refine dwp_seq ?_
              refine dwp_seq ?_
              refine dwp_region ?_
              refine walk_r rfl rfl rfl (op_move (.inl rfl) (ev1 rfl)) ?_
              refine walk_r rfl rfl rfl (op_lena rfl sl22 (ev1 rfl) rfl) ?_
              refine walk_r rfl rfl rfl (op_move (.inl rfl) (ev1 rfl)) ?_
              refine walk_nil ?_
              refine dwp_block ?_
              refine dwp_loopS ⟨hs0, rfl⟩ (α := Nat × List Int) (fun x => [(115, .val (.int .i64 (x.1 : Int)))]) [(0, _), (5, _), (8, _), (21, _), (22, _), (23, _), (114, _)] (fun x => [(1, .arr 5 1 (b ++ bytesN w pn).length ((x.2).flatMap uc8))]) [_, .hole] (fun x => x.1 ≤ (b ++ bytesN w pn).length ∧ x.2.length = (b ++ bytesN w pn).length) (fun x => (b ++ bytesN w pn).length - x.1) (0, (b ++ bytesN w pn)) [0, 1] (⟨by simp, rfl⟩) rfl ⟨rfl, rfl, rfl, rfl, rfl, rfl, rfl, trivial⟩ ⟨rfl, trivial⟩ ⟨rfl, rfl, trivial⟩ ?_
              intro x hx
              simp only [upd, List.set_cons_zero, List.set_cons_succ, List.cons_append, List.nil_append]
              obtain ⟨j, q⟩ := x
              obtain ⟨g1, g2⟩ := hx
              dsimp only at g1 g2 ⊢
              have hlb : (b ++ bytesN w pn).length = b.length + w := by rw [List.length_append, bytesN_len hw8.2]
              refine dwp_seq ?_
              refine dwp_region ?_
              refine walk_r rfl rfl rfl (op_lss rfl (ev1 rfl) (ev1 rfl)) ?_
              refine walk_nil ?_
              refine dwp_seq ?_
              refine dwp_cond rfl (fun c10 => ?_) (fun c10 => ?_)
              · try simp only [decide_eq_true_eq, decide_eq_false_iff_not, beq_iff_eq, bne_iff_ne, beq_eq_false_iff_ne, bne_eq_false_iff_eq, Bool.not_eq_true', Bool.not_eq_false', Bool.and_eq_true, Bool.or_eq_true, Bool.or_eq_false_iff, ne_eq, Decidable.not_not, Int.not_lt, Int.not_le] at c10
                refine dwp_skip ?_
                refine dwp_seq ?_
                refine dwp_block ?_
                refine dwp_seq ?_
                refine dwp_region ?_
                refine walk_r rfl rfl rfl (op_move (.inl rfl) (ev1 rfl)) ?_
                refine walk_r rfl rfl rfl (op_move (.inr rfl) (ev1 rfl)) ?_
                refine walk_nil ?_
                refine dwp_region ?_
                refine walk_r rfl rfl rfl (op_move (.inl rfl) (ev1 rfl)) ?_
                refine walk_r rfl rfl rfl (op_move (.inl rfl) (ev1 rfl)) ?_
                refine walk_r rfl rfl rfl (op_ixar (j := j) rfl sl22 (ev1 rfl) (ev1 rfl) rfl (fun _ => by first | rfl | omega) (fun _ => by omega)) ?_
                refine walk_r rfl rfl rfl (op_lda1 rfl tb5 (ev1 rfl) rfl (fun _ => rfl) (by omega) rfl) ?_
                refine walk_r rfl rfl rfl (op_add rfl (ev1 rfl) (ev1 rfl)) ?_
                refine walk_r rfl rfl rfl (op_ixar (j := j) rfl sl22 (ev1 rfl) (ev1 rfl) rfl (fun _ => by first | rfl | omega) (fun _ => by omega)) ?_
                refine walk_s rfl rfl (op_staf (l := q) (en := uc8) (j := j) (c := 0) (0) (IntKind.u8.wrap (q[j] + 1)) rfl tb5 (ev1 rfl) (ev1 rfl) rfl rfl rfl rfl (fun _ => rfl) (fun _ => by omega) (Nat.le_of_ble_eq_true rfl) rfl) (by simp only [upd, List.set_cons_zero, List.set_cons_succ]; exact rfl) ?_
                refine walk_nil ?_
                refine dwp_region ?_
                refine walk_r rfl rfl rfl (op_add' rfl (ev1 rfl) (ev1 rfl) (fun _ => IntWalk.i64_in _ (by omega))) ?_
                refine walk_r rfl rfl rfl (op_move (.inl rfl) (ev1 rfl)) ?_
                refine walk_nil ?_
                refine ⟨(j + 1, q.set j (IntKind.u8.wrap (q[j] + 1))), [0, 1], ⟨by omega, by simp [g2]⟩, by simp only []; omega, rfl, ⟨rfl, rfl, rfl, rfl, rfl, rfl, rfl, rfl, trivial⟩, ⟨rfl, rfl, trivial⟩⟩
              · try simp only [decide_eq_true_eq, decide_eq_false_iff_not, beq_iff_eq, bne_iff_ne, beq_eq_false_iff_ne, bne_eq_false_iff_eq, Bool.not_eq_true', Bool.not_eq_false', Bool.and_eq_true, Bool.or_eq_true, Bool.or_eq_false_iff, ne_eq, Decidable.not_not, Int.not_lt, Int.not_le] at c10
                refine dwp_exit ?_
                refine dwp_seq ?_
                refine dwp_region ?_
                refine walk_r rfl rfl rfl (op_move (.inl rfl) (ev1 rfl)) ?_
                refine walk_r rfl rfl rfl (op_move (.inl rfl) (ev1 rfl)) ?_
                refine walk_r rfl rfl rfl (dop_call [] [] [] rfl (ev1 rfl) (ec (ev1 rfl) en) rfl rfl (few_d _) rfl rfl rfl rfl rfl rfl) ?_
                refine walk_r rfl rfl rfl (dop_call [] [] [] rfl (ev1 rfl) (ec (ev1 rfl) (ec (ev1 rfl) en)) rfl rfl (equalB b (z.take (min z.length 60))) rfl rfl rfl rfl rfl rfl) ?_
                refine walk_r rfl rfl rfl (op_not rfl (ev1 rfl)) ?_
                refine walk_nil ?_
                refine dwp_if_f rfl (by rw [← hb]; simp) ?_
                refine dwp_skip ?_
                refine dwp_region ?_
                refine walk_r rfl rfl rfl (op_add' rfl (ev1 rfl) (ev1 rfl) (fun _ => IntWalk.i64_in _ (by omega))) ?_
                refine walk_r rfl rfl rfl (op_move (.inl rfl) (ev1 rfl)) ?_
                refine walk_nil ?_
                refine ⟨k + 1, [], by omega, by simp only []; omega, rfl, ⟨rfl, rfl, rfl, rfl, rfl, trivial⟩, trivial⟩
            · have eg : gotM b i w = (0, 110) := by unfold gotM; rw [if_pos hw, if_neg (by omega), if_pos (by simp at hs; omega)]
              refine dwp_skip ?_
              refine dwp_seq ?_
              refine dwp_seq ?_
              refine dwp_region ?_
              refine walk_r rfl rfl rfl (op_move (.inl rfl) (ev1 rfl)) ?_
              refine walk_r rfl rfl rfl (op_move (.inl rfl) (ev1 rfl)) ?_
              refine walk_r rfl rfl rfl (op_neq rfl (ev1 rfl) (ev1 rfl)) ?_
              refine walk_r rfl rfl rfl (op_move (.inl rfl) (ev1 rfl)) ?_
              refine walk_gr (gd_f rfl rfl rfl) rfl rfl rfl (op_move (.inl rfl) (ev1 rfl)) ?_
              refine walk_gr (gd_f rfl rfl rfl) rfl rfl rfl (op_move (.inl rfl) (ev1 rfl)) ?_
              refine walk_gr (gd_f rfl rfl rfl) rfl rfl rfl (op_neq rfl (ev2 rfl) (ev2 rfl)) ?_
              refine walk_r rfl rfl rfl (op_or rfl (ev1 rfl) (ev3 rfl id)) ?_
              refine walk_r rfl rfl rfl (op_move (.inl rfl) (ev1 rfl)) ?_
              refine walk_gr (gd_f rfl rfl rfl) rfl rfl rfl (op_move (.inl rfl) (ev1 rfl)) ?_
              refine walk_gr (gd_f rfl rfl rfl) rfl rfl rfl (op_move (.inl rfl) (ev1 rfl)) ?_
              refine walk_gr (gd_f rfl rfl rfl) rfl rfl rfl (op_neq rfl (ev2 rfl) (ev2 rfl)) ?_
              refine walk_r rfl rfl rfl (op_or rfl (ev1 rfl) (ev3 rfl id)) ?_
              refine walk_r rfl rfl rfl (op_move (.inl rfl) (ev1 rfl)) ?_
              refine walk_gr (gd_f rfl rfl rfl) rfl rfl rfl (op_move (.inl rfl) (ev1 rfl)) ?_
              refine walk_gr (gd_f rfl rfl rfl) rfl rfl rfl (op_move (.inl rfl) (ev1 rfl)) ?_
              refine walk_gr (gd_f rfl rfl rfl) rfl rfl rfl (dop_call [] [1] [] rfl (ev1 rfl) (ec (ev2 rfl) (ec (ev2 rfl) en)) rfl rfl (same_d (b ++ bytesN w pn) (b ++ layR pn w)) rfl rfl rfl rfl rfl rfl) ?_
              refine walk_gr (gd_f rfl rfl rfl) rfl rfl rfl (op_not rfl (ev2 rfl)) ?_
              refine walk_r rfl rfl rfl (op_or rfl (ev1 rfl) (ev3 rfl id)) ?_
              refine walk_nil ?_
              refine dwp_if_f rfl (by first | (rw [eg, hen]; simp [bytes_lay _ w hw8]) | (rw [eg]; simp [bytes_lay _ w hw8])) ?_
              refine dwp_skip ?_
              refine dwp_seq ?_
              refine dwp_seq ?_
              refine dwp_region ?_
              refine walk_r rfl rfl rfl (op_move (.inl rfl) (ev1 rfl)) ?_
              refine walk_r rfl rfl rfl (op_lena rfl sl22 (ev1 rfl) rfl) ?_
              refine walk_r rfl rfl rfl (op_move (.inl rfl) (ev1 rfl)) ?_
              refine walk_nil ?_
              refine dwp_block ?_
              refine dwp_loopS ⟨hs0, rfl⟩ (α := Nat × List Int) (fun x => [(115, .val (.int .i64 (x.1 : Int)))]) [(0, _), (5, _), (8, _), (21, _), (22, _), (23, _), (114, _)] (fun x => [(1, .arr 5 1 (b ++ bytesN w pn).length ((x.2).flatMap uc8))]) [_, .hole] (fun x => x.1 ≤ (b ++ bytesN w pn).length ∧ x.2.length = (b ++ bytesN w pn).length) (fun x => (b ++ bytesN w pn).length - x.1) (0, (b ++ bytesN w pn)) [0, 1] (⟨by simp, rfl⟩) rfl ⟨rfl, rfl, rfl, rfl, rfl, rfl, rfl, trivial⟩ ⟨rfl, trivial⟩ ⟨rfl, rfl, trivial⟩ ?_
              intro x hx
              simp only [upd, List.set_cons_zero, List.set_cons_succ, List.cons_append, List.nil_append]
              obtain ⟨j, q⟩ := x
              obtain ⟨g1, g2⟩ := hx
              dsimp only at g1 g2 ⊢
              have hlb : (b ++ bytesN w pn).length = b.length + w := by rw [List.length_append, bytesN_len hw8.2]
              refine dwp_seq ?_
              refine dwp_region ?_
              refine walk_r rfl rfl rfl (op_lss rfl (ev1 rfl) (ev1 rfl)) ?_
              refine walk_nil ?_
              refine dwp_seq ?_
              refine dwp_cond rfl (fun c13 => ?_) (fun c13 => ?_)
              · try simp only [decide_eq_true_eq, decide_eq_false_iff_not, beq_iff_eq, bne_iff_ne, beq_eq_false_iff_ne, bne_eq_false_iff_eq, Bool.not_eq_true', Bool.not_eq_false', Bool.and_eq_true, Bool.or_eq_true, Bool.or_eq_false_iff, ne_eq, Decidable.not_not, Int.not_lt, Int.not_le] at c13
                refine dwp_skip ?_
                refine dwp_seq ?_
                refine dwp_block ?_
                refine dwp_seq ?_
                refine dwp_region ?_
                refine walk_r rfl rfl rfl (op_move (.inl rfl) (ev1 rfl)) ?_
                refine walk_r rfl rfl rfl (op_move (.inr rfl) (ev1 rfl)) ?_
                refine walk_nil ?_
                refine dwp_region ?_
                refine walk_r rfl rfl rfl (op_move (.inl rfl) (ev1 rfl)) ?_
                refine walk_r rfl rfl rfl (op_move (.inl rfl) (ev1 rfl)) ?_
                refine walk_r rfl rfl rfl (op_ixar (j := j) rfl sl22 (ev1 rfl) (ev1 rfl) rfl (fun _ => by first | rfl | omega) (fun _ => by omega)) ?_
                refine walk_r rfl rfl rfl (op_lda1 rfl tb5 (ev1 rfl) rfl (fun _ => rfl) (by omega) rfl) ?_
                refine walk_r rfl rfl rfl (op_add rfl (ev1 rfl) (ev1 rfl)) ?_
                refine walk_r rfl rfl rfl (op_ixar (j := j) rfl sl22 (ev1 rfl) (ev1 rfl) rfl (fun _ => by first | rfl | omega) (fun _ => by omega)) ?_
                refine walk_s rfl rfl (op_staf (l := q) (en := uc8) (j := j) (c := 0) (0) (IntKind.u8.wrap (q[j] + 1)) rfl tb5 (ev1 rfl) (ev1 rfl) rfl rfl rfl rfl (fun _ => rfl) (fun _ => by omega) (Nat.le_of_ble_eq_true rfl) rfl) (by simp only [upd, List.set_cons_zero, List.set_cons_succ]; exact rfl) ?_
                refine walk_nil ?_
                refine dwp_region ?_
                refine walk_r rfl rfl rfl (op_add' rfl (ev1 rfl) (ev1 rfl) (fun _ => IntWalk.i64_in _ (by omega))) ?_
                refine walk_r rfl rfl rfl (op_move (.inl rfl) (ev1 rfl)) ?_
                refine walk_nil ?_
                refine ⟨(j + 1, q.set j (IntKind.u8.wrap (q[j] + 1))), [0, 1], ⟨by omega, by simp [g2]⟩, by simp only []; omega, rfl, ⟨rfl, rfl, rfl, rfl, rfl, rfl, rfl, rfl, trivial⟩, ⟨rfl, rfl, trivial⟩⟩
              · try simp only [decide_eq_true_eq, decide_eq_false_iff_not, beq_iff_eq, bne_iff_ne, beq_eq_false_iff_ne, bne_eq_false_iff_eq, Bool.not_eq_true', Bool.not_eq_false', Bool.and_eq_true, Bool.or_eq_true, Bool.or_eq_false_iff, ne_eq, Decidable.not_not, Int.not_lt, Int.not_le] at c13
                refine dwp_exit ?_
                refine dwp_seq ?_
                refine dwp_region ?_
                refine walk_r rfl rfl rfl (op_move (.inl rfl) (ev1 rfl)) ?_
                refine walk_r rfl rfl rfl (op_move (.inl rfl) (ev1 rfl)) ?_
                refine walk_r rfl rfl rfl (dop_call [] [] [] rfl (ev1 rfl) (ec (ev1 rfl) en) rfl rfl (few_d _) rfl rfl rfl rfl rfl rfl) ?_
                refine walk_r rfl rfl rfl (dop_call [] [] [] rfl (ev1 rfl) (ec (ev1 rfl) (ec (ev1 rfl) en)) rfl rfl (equalB b (z.take (min z.length 60))) rfl rfl rfl rfl rfl rfl) ?_
                refine walk_r rfl rfl rfl (op_not rfl (ev1 rfl)) ?_
                refine walk_nil ?_
                refine dwp_if_f rfl (by rw [← hb]; simp) ?_
                refine dwp_skip ?_
                refine dwp_region ?_
                refine walk_r rfl rfl rfl (op_add' rfl (ev1 rfl) (ev1 rfl) (fun _ => IntWalk.i64_in _ (by omega))) ?_
                refine walk_r rfl rfl rfl (op_move (.inl rfl) (ev1 rfl)) ?_
                refine walk_nil ?_
                refine ⟨k + 1, [], by omega, by simp only []; omega, rfl, ⟨rfl, rfl, rfl, rfl, rfl, trivial⟩, trivial⟩
          · have ha1 : pa < 0 ∨ (b.length : Int) < pa := by
              simp at ha
              omega
            have eg : gotM b pa w = (0, 2) := by unfold gotM; rw [if_pos hw, if_pos ha1]
            refine dwp_skip ?_
            refine dwp_seq ?_
            refine dwp_seq ?_
            refine dwp_region ?_
            refine walk_r rfl rfl rfl (op_move (.inl rfl) (ev1 rfl)) ?_
            refine walk_r rfl rfl rfl (op_move (.inl rfl) (ev1 rfl)) ?_
            refine walk_r rfl rfl rfl (op_neq rfl (ev1 rfl) (ev1 rfl)) ?_
            refine walk_r rfl rfl rfl (op_move (.inl rfl) (ev1 rfl)) ?_
            refine walk_gr (gd_f rfl rfl rfl) rfl rfl rfl (op_move (.inl rfl) (ev1 rfl)) ?_
            refine walk_gr (gd_f rfl rfl rfl) rfl rfl rfl (op_move (.inl rfl) (ev1 rfl)) ?_
            refine walk_gr (gd_f rfl rfl rfl) rfl rfl rfl (op_neq rfl (ev2 rfl) (ev2 rfl)) ?_
            refine walk_r rfl rfl rfl (op_or rfl (ev1 rfl) (ev3 rfl id)) ?_
            refine walk_r rfl rfl rfl (op_move (.inl rfl) (ev1 rfl)) ?_
            refine walk_gr (gd_f rfl rfl rfl) rfl rfl rfl (op_move (.inl rfl) (ev1 rfl)) ?_
            refine walk_gr (gd_f rfl rfl rfl) rfl rfl rfl (op_move (.inl rfl) (ev1 rfl)) ?_
            refine walk_gr (gd_f rfl rfl rfl) rfl rfl rfl (op_neq rfl (ev2 rfl) (ev2 rfl)) ?_
            refine walk_r rfl rfl rfl (op_or rfl (ev1 rfl) (ev3 rfl id)) ?_
            refine walk_r rfl rfl rfl (op_move (.inl rfl) (ev1 rfl)) ?_
            refine walk_gr (gd_f rfl rfl rfl) rfl rfl rfl (op_move (.inl rfl) (ev1 rfl)) ?_
            refine walk_gr (gd_f rfl rfl rfl) rfl rfl rfl (op_move (.inl rfl) (ev1 rfl)) ?_
            refine walk_gr (gd_f rfl rfl rfl) rfl rfl rfl (dop_call [] [1] [] rfl (ev1 rfl) (ec (ev2 rfl) (ec (ev2 rfl) en)) rfl rfl (same_d (b ++ bytesN w pn) (b ++ layR pn w)) rfl rfl rfl rfl rfl rfl) ?_
            refine walk_gr (gd_f rfl rfl rfl) rfl rfl rfl (op_not rfl (ev2 rfl)) ?_
            refine walk_r rfl rfl rfl (op_or rfl (ev1 rfl) (ev3 rfl id)) ?_
            refine walk_nil ?_
            refine dwp_if_f rfl (by first | (rw [eg, hen]; simp [bytes_lay _ w hw8]) | (rw [eg]; simp [bytes_lay _ w hw8])) ?_
            refine dwp_skip ?_
            refine dwp_seq ?_
            refine dwp_seq ?_
            refine dwp_region ?_
            refine walk_r rfl rfl rfl (op_move (.inl rfl) (ev1 rfl)) ?_
            refine walk_r rfl rfl rfl (op_lena rfl sl22 (ev1 rfl) rfl) ?_
            refine walk_r rfl rfl rfl (op_move (.inl rfl) (ev1 rfl)) ?_
            refine walk_nil ?_
            refine dwp_block ?_
            refine dwp_loopS ⟨hs0, rfl⟩ (α := Nat × List Int) (fun x => [(115, .val (.int .i64 (x.1 : Int)))]) [(0, _), (5, _), (8, _), (21, _), (22, _), (23, _), (114, _)] (fun x => [(1, .arr 5 1 (b ++ bytesN w pn).length ((x.2).flatMap uc8))]) [_, .hole] (fun x => x.1 ≤ (b ++ bytesN w pn).length ∧ x.2.length = (b ++ bytesN w pn).length) (fun x => (b ++ bytesN w pn).length - x.1) (0, (b ++ bytesN w pn)) [0, 1] (⟨by simp, rfl⟩) rfl ⟨rfl, rfl, rfl, rfl, rfl, rfl, rfl, trivial⟩ ⟨rfl, trivial⟩ ⟨rfl, rfl, trivial⟩ ?_
            intro x hx
            simp only [upd, List.set_cons_zero, List.set_cons_succ, List.cons_append, List.nil_append]
            obtain ⟨j, q⟩ := x
            obtain ⟨g1, g2⟩ := hx
            dsimp only at g1 g2 ⊢
            have hlb : (b ++ bytesN w pn).length = b.length + w := by rw [List.length_append, bytesN_len hw8.2]
            refine dwp_seq ?_
            refine dwp_region ?_
            refine walk_r rfl rfl rfl (op_lss rfl (ev1 rfl) (ev1 rfl)) ?_
            refine walk_nil ?_
            refine dwp_seq ?_
            refine dwp_cond rfl (fun c16 => ?_) (fun c16 => ?_)
            · try simp only [decide_eq_true_eq, decide_eq_false_iff_not, beq_iff_eq, bne_iff_ne, beq_eq_false_iff_ne, bne_eq_false_iff_eq, Bool.not_eq_true', Bool.not_eq_false', Bool.and_eq_true, Bool.or_eq_true, Bool.or_eq_false_iff, ne_eq, Decidable.not_not, Int.not_lt, Int.not_le] at c16
              refine dwp_skip ?_
              refine dwp_seq ?_
              refine dwp_block ?_
              refine dwp_seq ?_
              refine dwp_region ?_
              refine walk_r rfl rfl rfl (op_move (.inl rfl) (ev1 rfl)) ?_
              refine walk_r rfl rfl rfl (op_move (.inr rfl) (ev1 rfl)) ?_
              refine walk_nil ?_
              refine dwp_region ?_
              refine walk_r rfl rfl rfl (op_move (.inl rfl) (ev1 rfl)) ?_
              refine walk_r rfl rfl rfl (op_move (.inl rfl) (ev1 rfl)) ?_
              refine walk_r rfl rfl rfl (op_ixar (j := j) rfl sl22 (ev1 rfl) (ev1 rfl) rfl (fun _ => by first | rfl | omega) (fun _ => by omega)) ?_
              refine walk_r rfl rfl rfl (op_lda1 rfl tb5 (ev1 rfl) rfl (fun _ => rfl) (by omega) rfl) ?_
              refine walk_r rfl rfl rfl (op_add rfl (ev1 rfl) (ev1 rfl)) ?_
              refine walk_r rfl rfl rfl (op_ixar (j := j) rfl sl22 (ev1 rfl) (ev1 rfl) rfl (fun _ => by first | rfl | omega) (fun _ => by omega)) ?_
              refine walk_s rfl rfl (op_staf (l := q) (en := uc8) (j := j) (c := 0) (0) (IntKind.u8.wrap (q[j] + 1)) rfl tb5 (ev1 rfl) (ev1 rfl) rfl rfl rfl rfl (fun _ => rfl) (fun _ => by omega) (Nat.le_of_ble_eq_true rfl) rfl) (by simp only [upd, List.set_cons_zero, List.set_cons_succ]; exact rfl) ?_
              refine walk_nil ?_
              refine dwp_region ?_
              refine walk_r rfl rfl rfl (op_add' rfl (ev1 rfl) (ev1 rfl) (fun _ => IntWalk.i64_in _ (by omega))) ?_
              refine walk_r rfl rfl rfl (op_move (.inl rfl) (ev1 rfl)) ?_
              refine walk_nil ?_
              refine ⟨(j + 1, q.set j (IntKind.u8.wrap (q[j] + 1))), [0, 1], ⟨by omega, by simp [g2]⟩, by simp only []; omega, rfl, ⟨rfl, rfl, rfl, rfl, rfl, rfl, rfl, rfl, trivial⟩, ⟨rfl, rfl, trivial⟩⟩
            · try simp only [decide_eq_true_eq, decide_eq_false_iff_not, beq_iff_eq, bne_iff_ne, beq_eq_false_iff_ne, bne_eq_false_iff_eq, Bool.not_eq_true', Bool.not_eq_false', Bool.and_eq_true, Bool.or_eq_true, Bool.or_eq_false_iff, ne_eq, Decidable.not_not, Int.not_lt, Int.not_le] at c16
              refine dwp_exit ?_
              refine dwp_seq ?_
              refine dwp_region ?_
              refine walk_r rfl rfl rfl (op_move (.inl rfl) (ev1 rfl)) ?_
              refine walk_r rfl rfl rfl (op_move (.inl rfl) (ev1 rfl)) ?_
              refine walk_r rfl rfl rfl (dop_call [] [] [] rfl (ev1 rfl) (ec (ev1 rfl) en) rfl rfl (few_d _) rfl rfl rfl rfl rfl rfl) ?_
              refine walk_r rfl rfl rfl (dop_call [] [] [] rfl (ev1 rfl) (ec (ev1 rfl) (ec (ev1 rfl) en)) rfl rfl (equalB b (z.take (min z.length 60))) rfl rfl rfl rfl rfl rfl) ?_
              refine walk_r rfl rfl rfl (op_not rfl (ev1 rfl)) ?_
              refine walk_nil ?_
              refine dwp_if_f rfl (by rw [← hb]; simp) ?_
              refine dwp_skip ?_
              refine dwp_region ?_
              refine walk_r rfl rfl rfl (op_add' rfl (ev1 rfl) (ev1 rfl) (fun _ => IntWalk.i64_in _ (by omega))) ?_
              refine walk_r rfl rfl rfl (op_move (.inl rfl) (ev1 rfl)) ?_
              refine walk_nil ?_
              refine ⟨k + 1, [], by omega, by simp only []; omega, rfl, ⟨rfl, rfl, rfl, rfl, rfl, trivial⟩, trivial⟩
        · refine dwp_region ?_
          refine walk_r rfl rfl rfl (op_move (.inl rfl) (ev1 rfl)) ?_
          refine walk_r rfl rfl rfl (op_fa rfl fo28_1 (ev1 rfl)) ?_
          refine walk_r rfl rfl rfl (op_ldo rfl tb3 (ev1 rfl) rfl rfl) ?_
          refine walk_r rfl rfl rfl (op_fa rfl fo28_2 (ev1 rfl)) ?_
          refine walk_r rfl rfl rfl (op_ldo rfl tb26 (ev1 rfl) rfl rfl) ?_
          refine walk_r rfl rfl rfl (dop_call [] [] [] rfl (ev1 rfl) (ec (ev1 rfl) (ec (ev1 rfl) (ec (ev1 rfl) en))) rfl rfl (wk_nil2 (sz := 1) (put_big b w pn hw8 (by simpa using hf))) rfl rfl rfl rfl rfl rfl) ?_
          refine walk_r rfl rfl rfl (op_move (.inl rfl) (ev1 rfl)) ?_
          refine walk_r rfl rfl rfl (op_ext rfl (ev1 rfl) rfl) ?_
          refine walk_r rfl rfl rfl (op_ext rfl (ev1 rfl) rfl) ?_
          refine walk_r rfl rfl rfl (op_move (.inr rfl) (ev1 rfl)) ?_
          refine walk_r rfl rfl rfl (op_move (.inr rfl) (ev1 rfl)) ?_
          refine walk_nil ?_
          refine dwp_seq ?_
          refine dwp_region ?_
          refine walk_r rfl rfl rfl (op_move (.inr rfl) (ev1 rfl)) ?_
          refine walk_nil ?_
          refine dwp_seq ?_
          refine dwp_region ?_
          refine walk_r rfl rfl rfl (op_move (.inr rfl) (ev1 rfl)) ?_
          refine walk_nil ?_
          refine dwp_seq ?_
          refine dwp_seq ?_
          refine dwp_region ?_
          refine walk_r rfl rfl rfl (op_fa rfl fo28_1 (ev1 rfl)) ?_
          refine walk_r rfl rfl rfl (op_ldo rfl tb3 (ev1 rfl) rfl rfl) ?_
          refine walk_r rfl rfl rfl (dop_call [] [] [] rfl (ev1 rfl) (ec (ev1 rfl) en) rfl rfl (refWidth_d _) rfl rfl rfl rfl rfl rfl) ?_
          refine walk_nil ?_
          refine dwp_if_t rfl (hw) ?_
          refine dwp_seq ?_
          refine dwp_region ?_
          refine walk_r rfl rfl rfl (op_move (.inr rfl) (ev1 rfl)) ?_
          refine walk_nil ?_
          refine dwp_seq ?_
          refine dwp_region ?_
          refine walk_r rfl rfl rfl (op_fa rfl fo28_1 (ev1 rfl)) ?_
          refine walk_r rfl rfl rfl (op_ldo rfl tb3 (ev1 rfl) rfl rfl) ?_
          refine walk_r rfl rfl rfl (op_fa rfl fo28_2 (ev1 rfl)) ?_
          refine walk_r rfl rfl rfl (op_ldo rfl tb26 (ev1 rfl) rfl rfl) ?_
          refine walk_r rfl rfl rfl (dop_call [] [] [] rfl (ev1 rfl) (ec (ev1 rfl) (ec (ev1 rfl) en)) rfl rfl (refFits_d w pn hnk (by omega)) rfl rfl rfl rfl rfl rfl) ?_
          refine walk_nil ?_
          refine dwp_if_f rfl (by rw [fits_eq hw8 hnk]; simpa using hf) ?_
          refine dwp_skip ?_
          refine dwp_seq ?_
          refine dwp_region ?_
          refine walk_r rfl rfl rfl (op_move (.inl rfl) (ev1 rfl)) ?_
          refine walk_r rfl rfl rfl (op_fa rfl fo28_0 (ev1 rfl)) ?_
          refine walk_r rfl rfl rfl (op_ldo rfl tb3 (ev1 rfl) rfl rfl) ?_
          refine walk_r rfl rfl rfl (op_fa rfl fo28_1 (ev1 rfl)) ?_
          refine walk_r rfl rfl rfl (op_ldo rfl tb3 (ev1 rfl) rfl rfl) ?_
          refine walk_r rfl rfl rfl (dop_call [] [] [] rfl (ev1 rfl) (ec (ev1 rfl) (ec (ev1 rfl) (ec (ev1 rfl) en))) rfl rfl (get_m b pa w (by omega)) rfl rfl rfl rfl rfl rfl) ?_
          refine walk_r rfl rfl rfl (op_move (.inl rfl) (ev1 rfl)) ?_
          refine walk_r rfl rfl rfl (op_ext rfl (ev1 rfl) rfl) ?_
          refine walk_r rfl rfl rfl (op_ext rfl (ev1 rfl) rfl) ?_
          refine walk_r rfl rfl rfl (op_move (.inr rfl) (ev1 rfl)) ?_
          refine walk_r rfl rfl rfl (op_move (.inr rfl) (ev1 rfl)) ?_
          refine walk_nil ?_
          refine dwp_seq ?_
          refine dwp_region ?_
          refine walk_r rfl rfl rfl (op_move (.inr rfl) (ev1 rfl)) ?_
          refine walk_r rfl rfl rfl (op_move (.inr rfl) (ev1 rfl)) ?_
          refine walk_nil ?_
          refine dwp_seq ?_
          refine dwp_seq ?_
          refine dwp_region ?_
          refine walk_r rfl rfl rfl (op_fa rfl fo28_1 (ev1 rfl)) ?_
          refine walk_r rfl rfl rfl (op_ldo rfl tb3 (ev1 rfl) rfl rfl) ?_
          refine walk_r rfl rfl rfl (dop_call [] [] [] rfl (ev1 rfl) (ec (ev1 rfl) en) rfl rfl (refWidth_d _) rfl rfl rfl rfl rfl rfl) ?_
          refine walk_nil ?_
          refine dwp_if_t rfl (hw) ?_
          refine dwp_seq ?_
          refine dwp_region ?_
          refine walk_r rfl rfl rfl (op_move (.inr rfl) (ev1 rfl)) ?_
          refine walk_nil ?_
          refine dwp_seq ?_
          refine dwp_region ?_
          refine walk_r rfl rfl rfl (op_fa rfl fo28_0 (ev1 rfl)) ?_
          refine walk_r rfl rfl rfl (op_ldo rfl tb3 (ev1 rfl) rfl rfl) ?_
          refine walk_r rfl rfl rfl (op_geq rfl (ev1 rfl) (ev1 rfl)) ?_
          refine walk_r rfl rfl rfl (op_move (.inl rfl) (ev1 rfl)) ?_
          refine walk_gr (gd_t rfl rfl rfl) rfl rfl rfl (op_fa rfl fo28_0 (ev1 rfl)) ?_
          refine walk_gr (gd_t rfl rfl rfl) rfl rfl rfl (op_ldo rfl tb3 (ev2 rfl) rfl rfl) ?_
          refine walk_gr (gd_t rfl rfl rfl) rfl rfl rfl (op_move (.inl rfl) (ev1 rfl)) ?_
          refine walk_gr (gd_t rfl rfl rfl) rfl rfl rfl (op_len rfl sl22 (ev2 rfl)) ?_
          refine walk_gr (gd_t rfl rfl rfl) rfl rfl rfl (op_leq rfl (ev2 rfl) (ev2 rfl)) ?_
          refine walk_r rfl rfl rfl (op_and rfl (ev1 rfl) (ev3 rfl id)) ?_
          refine walk_nil ?_
          refine dwp_cond rfl (fun ha => ?_) (fun ha => ?_)
          · have ha1 : 0 ≤ pa ∧ pa ≤ (b.length : Int) := by simpa using ha
            obtain ⟨i, rfl⟩ := Int.eq_ofNat_of_zero_le ha1.1
            refine dwp_seq ?_
            refine dwp_region ?_
            refine walk_r rfl rfl rfl (op_move (.inr rfl) (ev1 rfl)) ?_
            refine walk_nil ?_
            refine dwp_seq ?_
            refine dwp_region ?_
            refine walk_r rfl rfl rfl (op_move (.inl rfl) (ev1 rfl)) ?_
            refine walk_r rfl rfl rfl (op_len rfl sl22 (ev1 rfl)) ?_
            refine walk_r rfl rfl rfl (op_fa rfl fo28_0 (ev1 rfl)) ?_
            refine walk_r rfl rfl rfl (op_ldo rfl tb3 (ev1 rfl) rfl rfl) ?_
            refine walk_r rfl rfl rfl (op_sub' rfl (ev1 rfl) (ev1 rfl) (fun _ => IntWalk.i64_in _ (by omega))) ?_
            refine walk_r rfl rfl rfl (op_fa rfl fo28_1 (ev1 rfl)) ?_
            refine walk_r rfl rfl rfl (op_ldo rfl tb3 (ev1 rfl) rfl rfl) ?_
            refine walk_r rfl rfl rfl (op_geq rfl (ev1 rfl) (ev1 rfl)) ?_
            refine walk_nil ?_
            refine dwp_cond rfl (fun hs => ?_) (fun hs => ?_)
            · have hs1 : i + w ≤ b.length := by simp at hs; omega
              have hen := numN_at hs1
              have eg : gotM b i w = (numN w (b.drop i), 0) := by unfold gotM; rw [if_pos hw, if_neg (by omega), if_neg (by omega)]; rfl
              refine dwp_region ?_
              refine walk_r rfl rfl rfl (op_move (.inl rfl) (ev1 rfl)) ?_
              refine walk_r rfl rfl rfl (op_fa rfl fo28_0 (ev1 rfl)) ?_
              refine walk_r rfl rfl rfl (op_ldo rfl tb3 (ev1 rfl) rfl rfl) ?_
              refine walk_r rfl rfl rfl (op_fa rfl fo28_0 (ev1 rfl)) ?_
              refine walk_r rfl rfl rfl (op_ldo rfl tb3 (ev1 rfl) rfl rfl) ?_
              refine walk_r rfl rfl rfl (op_fa rfl fo28_1 (ev1 rfl)) ?_
              refine walk_r rfl rfl rfl (op_ldo rfl tb3 (ev1 rfl) rfl rfl) ?_
              refine walk_r rfl rfl rfl (op_add' rfl (ev1 rfl) (ev1 rfl) (fun _ => IntWalk.i64_in _ (by omega))) ?_
              refine walk_r rfl rfl rfl (op_slmd (i := i) (j := i + w) rfl sl22 (ev1 rfl) (bd_some (ev1 rfl)) (bd_some (ev1 rfl)) (fun _ => by omega) (fun _ => by omega) (fun _ => by omega) (fun _ => rfl)) ?_
              refine walk_r rfl rfl rfl (dop_call [] [] [] rfl (ev1 rfl) (ec (ev1 rfl) en) rfl rfl (refNumber_d _ (isBs_take (isBs_drop bb _) _) (by rw [List.length_take]; omega)) rfl rfl rfl rfl rfl rfl) ?_
              refine walk_r rfl rfl rfl (op_move (.inr rfl) (ev1 rfl)) ?_
              refine walk_r rfl rfl rfl (op_move (.inr rfl) (ev1 rfl)) ?_
              refine walk_nil ?_
              refine dwp_seq ?_
              refine dwp_seq ?_
              refine dwp_region ?_
              refine walk_r rfl rfl rfl (op_move (.inl rfl) (ev1 rfl)) ?_
              refine walk_r rfl rfl rfl (op_move (.inl rfl) (ev1 rfl)) ?_
              refine walk_r rfl rfl rfl (op_neq rfl (ev1 rfl) (ev1 rfl)) ?_
              refine walk_r rfl rfl rfl (op_move (.inl rfl) (ev1 rfl)) ?_
              refine walk_gr (gd_f rfl rfl rfl) rfl rfl rfl (op_move (.inl rfl) (ev1 rfl)) ?_
              refine walk_gr (gd_f rfl rfl rfl) rfl rfl rfl (op_move (.inl rfl) (ev1 rfl)) ?_
              refine walk_gr (gd_f rfl rfl rfl) rfl rfl rfl (op_neq rfl (ev2 rfl) (ev2 rfl)) ?_
              refine walk_r rfl rfl rfl (op_or rfl (ev1 rfl) (ev3 rfl id)) ?_
              refine walk_r rfl rfl rfl (op_move (.inl rfl) (ev1 rfl)) ?_
              refine walk_gr (gd_f rfl rfl rfl) rfl rfl rfl (op_move (.inl rfl) (ev1 rfl)) ?_
              refine walk_gr (gd_f rfl rfl rfl) rfl rfl rfl (op_move (.inl rfl) (ev1 rfl)) ?_
              refine walk_gr (gd_f rfl rfl rfl) rfl rfl rfl (op_neq rfl (ev2 rfl) (ev2 rfl)) ?_
              refine walk_r rfl rfl rfl (op_or rfl (ev1 rfl) (ev3 rfl id)) ?_
              refine walk_r rfl rfl rfl (op_move (.inl rfl) (ev1 rfl)) ?_
              refine walk_gr (gd_f rfl rfl rfl) rfl rfl rfl (op_move (.inl rfl) (ev1 rfl)) ?_
              refine walk_gr (gd_f rfl rfl rfl) rfl rfl rfl (op_move (.inl rfl) (ev1 rfl)) ?_
              refine walk_gr (gd_f rfl rfl rfl) rfl rfl rfl (dop_call [] [] [] rfl (ev1 rfl) (ec (ev2 rfl) (ec (evnil 1 (ev2 rfl)) en)) rfl rfl (same_d [] []) rfl rfl rfl rfl rfl rfl) ?_
              refine walk_gr (gd_f rfl rfl rfl) rfl rfl rfl (op_not rfl (ev2 rfl)) ?_
              refine walk_r rfl rfl rfl (op_or rfl (ev1 rfl) (ev3 rfl id)) ?_
              refine walk_nil ?_
              refine dwp_if_f rfl (by first | (rw [eg, hen]; simp [bytes_lay _ w hw8]) | (rw [eg]; simp [bytes_lay _ w hw8])) ?_
              refine dwp_skip ?_
              refine dwp_seq ?_
              refine dwp_seq ?_
              refine dwp_region ?_
              refine walk_r rfl rfl rfl (op_move (.inl rfl) (ev1 rfl)) ?_
              refine walk_r rfl rfl rfl (op_len rfl sl22 (ev1 rfl)) ?_
              refine walk_r rfl rfl rfl (op_move (.inl rfl) (ev1 rfl)) ?_
              refine walk_nil ?_
              refine dwp_block ?_
              refine dwp_dloop (dloop_step ?_)
              refine dwp_seq ?_
              refine dwp_region ?_
              refine walk_r rfl rfl rfl (op_lss rfl (ev1 rfl) (ev1 rfl)) ?_
              refine walk_nil ?_
              refine dwp_seq ?_
              refine dwp_if_f rfl (rfl) ?_
              refine dwp_exit ?_
              refine dwp_seq ?_
              refine dwp_region ?_
              refine walk_r rfl rfl rfl (op_move (.inl rfl) (ev1 rfl)) ?_
              refine walk_r rfl rfl rfl (op_move (.inl rfl) (ev1 rfl)) ?_
              refine walk_r rfl rfl rfl (dop_call [] [] [] rfl (ev1 rfl) (ec (ev1 rfl) en) rfl rfl (few_d _) rfl rfl rfl rfl rfl rfl) ?_
              refine walk_r rfl rfl rfl (dop_call [] [] [] rfl (ev1 rfl) (ec (ev1 rfl) (ec (ev1 rfl) en)) rfl rfl (equalB b (z.take (min z.length 60))) rfl rfl rfl rfl rfl rfl) ?_
              refine walk_r rfl rfl rfl (op_not rfl (ev1 rfl)) ?_
              refine walk_nil ?_
              refine dwp_if_f rfl (by rw [← hb]; simp) ?_
              refine dwp_skip ?_
              refine dwp_region ?_
              refine walk_r rfl rfl rfl (op_add' rfl (ev1 rfl) (ev1 rfl) (fun _ => IntWalk.i64_in _ (by omega))) ?_
              refine walk_r rfl rfl rfl (op_move (.inl rfl) (ev1 rfl)) ?_
              refine walk_nil ?_
              refine ⟨k + 1, [], by omega, by simp only []; omega, rfl, ⟨rfl, rfl, rfl, rfl, rfl, trivial⟩, trivial⟩
            · have eg : gotM b i w = (0, 110) := by unfold gotM; rw [if_pos hw, if_neg (by omega), if_pos (by simp at hs; omega)]
              refine dwp_skip ?_
              refine dwp_seq ?_
              refine dwp_seq ?_
              refine dwp_region ?_
              refine walk_r rfl rfl rfl (op_move (.inl rfl) (ev1 rfl)) ?_
              refine walk_r rfl rfl rfl (op_move (.inl rfl) (ev1 rfl)) ?_
              refine walk_r rfl rfl rfl (op_neq rfl (ev1 rfl) (ev1 rfl)) ?_
              refine walk_r rfl rfl rfl (op_move (.inl rfl) (ev1 rfl)) ?_
              refine walk_gr (gd_f rfl rfl rfl) rfl rfl rfl (op_move (.inl rfl) (ev1 rfl)) ?_
              refine walk_gr (gd_f rfl rfl rfl) rfl rfl rfl (op_move (.inl rfl) (ev1 rfl)) ?_
              refine walk_gr (gd_f rfl rfl rfl) rfl rfl rfl (op_neq rfl (ev2 rfl) (ev2 rfl)) ?_
              refine walk_r rfl rfl rfl (op_or rfl (ev1 rfl) (ev3 rfl id)) ?_
              refine walk_r rfl rfl rfl (op_move (.inl rfl) (ev1 rfl)) ?_
              refine walk_gr (gd_f rfl rfl rfl) rfl rfl rfl (op_move (.inl rfl) (ev1 rfl)) ?_
              refine walk_gr (gd_f rfl rfl rfl) rfl rfl rfl (op_move (.inl rfl) (ev1 rfl)) ?_
              refine walk_gr (gd_f rfl rfl rfl) rfl rfl rfl (op_neq rfl (ev2 rfl) (ev2 rfl)) ?_
              refine walk_r rfl rfl rfl (op_or rfl (ev1 rfl) (ev3 rfl id)) ?_
              refine walk_r rfl rfl rfl (op_move (.inl rfl) (ev1 rfl)) ?_
              refine walk_gr (gd_f rfl rfl rfl) rfl rfl rfl (op_move (.inl rfl) (ev1 rfl)) ?_
              refine walk_gr (gd_f rfl rfl rfl) rfl rfl rfl (op_move (.inl rfl) (ev1 rfl)) ?_
              refine walk_gr (gd_f rfl rfl rfl) rfl rfl rfl (dop_call [] [] [] rfl (ev1 rfl) (ec (ev2 rfl) (ec (evnil 1 (ev2 rfl)) en)) rfl rfl (same_d [] []) rfl rfl rfl rfl rfl rfl) ?_
              refine walk_gr (gd_f rfl rfl rfl) rfl rfl rfl (op_not rfl (ev2 rfl)) ?_
              refine walk_r rfl rfl rfl (op_or rfl (ev1 rfl) (ev3 rfl id)) ?_
              refine walk_nil ?_
              refine dwp_if_f rfl (by first | (rw [eg, hen]; simp [bytes_lay _ w hw8]) | (rw [eg]; simp [bytes_lay _ w hw8])) ?_
              refine dwp_skip ?_
              refine dwp_seq ?_
              refine dwp_seq ?_
              refine dwp_region ?_
              refine walk_r rfl rfl rfl (op_move (.inl rfl) (ev1 rfl)) ?_
              refine walk_r rfl rfl rfl (op_len rfl sl22 (ev1 rfl)) ?_
              refine walk_r rfl rfl rfl (op_move (.inl rfl) (ev1 rfl)) ?_
              refine walk_nil ?_
              refine dwp_block ?_
              refine dwp_dloop (dloop_step ?_)
              refine dwp_seq ?_
              refine dwp_region ?_
              refine walk_r rfl rfl rfl (op_lss rfl (ev1 rfl) (ev1 rfl)) ?_
              refine walk_nil ?_
              refine dwp_seq ?_
              refine dwp_if_f rfl (rfl) ?_
              refine dwp_exit ?_
              refine dwp_seq ?_
              refine dwp_region ?_
              refine walk_r rfl rfl rfl (op_move (.inl rfl) (ev1 rfl)) ?_
              refine walk_r rfl rfl rfl (op_move (.inl rfl) (ev1 rfl)) ?_
              refine walk_r rfl rfl rfl (dop_call [] [] [] rfl (ev1 rfl) (ec (ev1 rfl) en) rfl rfl (few_d _) rfl rfl rfl rfl rfl rfl) ?_
              refine walk_r rfl rfl rfl (dop_call [] [] [] rfl (ev1 rfl) (ec (ev1 rfl) (ec (ev1 rfl) en)) rfl rfl (equalB b (z.take (min z.length 60))) rfl rfl rfl rfl rfl rfl) ?_
              refine walk_r rfl rfl rfl (op_not rfl (ev1 rfl)) ?_
              refine walk_nil ?_
              refine dwp_if_f rfl (by rw [← hb]; simp) ?_
              refine dwp_skip ?_
              refine dwp_region ?_
              refine walk_r rfl rfl rfl (op_add' rfl (ev1 rfl) (ev1 rfl) (fun _ => IntWalk.i64_in _ (by omega))) ?_
              refine walk_r rfl rfl rfl (op_move (.inl rfl) (ev1 rfl)) ?_
              refine walk_nil ?_
              refine ⟨k + 1, [], by omega, by simp only []; omega, rfl, ⟨rfl, rfl, rfl, rfl, rfl, trivial⟩, trivial⟩
          · have ha1 : pa < 0 ∨ (b.length : Int) < pa := by
              simp at ha
              omega
            have eg : gotM b pa w = (0, 2) := by unfold gotM; rw [if_pos hw, if_pos ha1]
            refine dwp_skip ?_
            refine dwp_seq ?_
            refine dwp_seq ?_
            refine dwp_region ?_
            refine walk_r rfl rfl rfl (op_move (.inl rfl) (ev1 rfl)) ?_
            refine walk_r rfl rfl rfl (op_move (.inl rfl) (ev1 rfl)) ?_
            refine walk_r rfl rfl rfl (op_neq rfl (ev1 rfl) (ev1 rfl)) ?_
            refine walk_r rfl rfl rfl (op_move (.inl rfl) (ev1 rfl)) ?_
            refine walk_gr (gd_f rfl rfl rfl) rfl rfl rfl (op_move (.inl rfl) (ev1 rfl)) ?_
            refine walk_gr (gd_f rfl rfl rfl) rfl rfl rfl (op_move (.inl rfl) (ev1 rfl)) ?_
            refine walk_gr (gd_f rfl rfl rfl) rfl rfl rfl (op_neq rfl (ev2 rfl) (ev2 rfl)) ?_
            refine walk_r rfl rfl rfl (op_or rfl (ev1 rfl) (ev3 rfl id)) ?_
            refine walk_r rfl rfl rfl (op_move (.inl rfl) (ev1 rfl)) ?_
            refine walk_gr (gd_f rfl rfl rfl) rfl rfl rfl (op_move (.inl rfl) (ev1 rfl)) ?_
            refine walk_gr (gd_f rfl rfl rfl) rfl rfl rfl (op_move (.inl rfl) (ev1 rfl)) ?_
            refine walk_gr (gd_f rfl rfl rfl) rfl rfl rfl (op_neq rfl (ev2 rfl) (ev2 rfl)) ?_
            refine walk_r rfl rfl rfl (op_or rfl (ev1 rfl) (ev3 rfl id)) ?_
            refine walk_r rfl rfl rfl (op_move (.inl rfl) (ev1 rfl)) ?_
            refine walk_gr (gd_f rfl rfl rfl) rfl rfl rfl (op_move (.inl rfl) (ev1 rfl)) ?_
            refine walk_gr (gd_f rfl rfl rfl) rfl rfl rfl (op_move (.inl rfl) (ev1 rfl)) ?_
            refine walk_gr (gd_f rfl rfl rfl) rfl rfl rfl (dop_call [] [] [] rfl (ev1 rfl) (ec (ev2 rfl) (ec (evnil 1 (ev2 rfl)) en)) rfl rfl (same_d [] []) rfl rfl rfl rfl rfl rfl) ?_
            refine walk_gr (gd_f rfl rfl rfl) rfl rfl rfl (op_not rfl (ev2 rfl)) ?_
            refine walk_r rfl rfl rfl (op_or rfl (ev1 rfl) (ev3 rfl id)) ?_
            refine walk_nil ?_
            refine dwp_if_f rfl (by first | (rw [eg, hen]; simp [bytes_lay _ w hw8]) | (rw [eg]; simp [bytes_lay _ w hw8])) ?_
            refine dwp_skip ?_
            refine dwp_seq ?_
            refine dwp_seq ?_
            refine dwp_region ?_
            refine walk_r rfl rfl rfl (op_move (.inl rfl) (ev1 rfl)) ?_
            refine walk_r rfl rfl rfl (op_len rfl sl22 (ev1 rfl)) ?_
            refine walk_r rfl rfl rfl (op_move (.inl rfl) (ev1 rfl)) ?_
            refine walk_nil ?_
            refine dwp_block ?_
            refine dwp_dloop (dloop_step ?_)
            refine dwp_seq ?_
            refine dwp_region ?_
            refine walk_r rfl rfl rfl (op_lss rfl (ev1 rfl) (ev1 rfl)) ?_
            refine walk_nil ?_
            refine dwp_seq ?_
            refine dwp_if_f rfl (rfl) ?_
            refine dwp_exit ?_
            refine dwp_seq ?_
            refine dwp_region ?_
            refine walk_r rfl rfl rfl (op_move (.inl rfl) (ev1 rfl)) ?_
            refine walk_r rfl rfl rfl (op_move (.inl rfl) (ev1 rfl)) ?_
            refine walk_r rfl rfl rfl (dop_call [] [] [] rfl (ev1 rfl) (ec (ev1 rfl) en) rfl rfl (few_d _) rfl rfl rfl rfl rfl rfl) ?_
            refine walk_r rfl rfl rfl (dop_call [] [] [] rfl (ev1 rfl) (ec (ev1 rfl) (ec (ev1 rfl) en)) rfl rfl (equalB b (z.take (min z.length 60))) rfl rfl rfl rfl rfl rfl) ?_
            refine walk_r rfl rfl rfl (op_not rfl (ev1 rfl)) ?_
            refine walk_nil ?_
            refine dwp_if_f rfl (by rw [← hb]; simp) ?_
            refine dwp_skip ?_
            refine dwp_region ?_
            refine walk_r rfl rfl rfl (op_add' rfl (ev1 rfl) (ev1 rfl) (fun _ => IntWalk.i64_in _ (by omega))) ?_
            refine walk_r rfl rfl rfl (op_move (.inl rfl) (ev1 rfl)) ?_
            refine walk_nil ?_
            refine ⟨k + 1, [], by omega, by simp only []; omega, rfl, ⟨rfl, rfl, rfl, rfl, rfl, trivial⟩, trivial⟩
    · have hrk := hr l[k] (List.getElem_mem _)
      generalize l[k] = p at hw hrk ⊢
      obtain ⟨pa, pw, pn⟩ := p
      dsimp only at hw
      have hnk : 0 ≤ pn ∧ pn ≤ 18446744073709551615 := hrk.2.2
      rw [show nm3 ⟨pa, pw, pn⟩ = [.int .i64 pa, .int .i64 pw, .int .u64 pn] from rfl]
      refine dwp_region ?_
      refine walk_r rfl rfl rfl (op_move (.inl rfl) (ev1 rfl)) ?_
      refine walk_r rfl rfl rfl (op_eql rfl (ev1 rfl) (ev1 rfl)) ?_
      refine walk_nil ?_
      refine dwp_cond rfl (fun c32 => ?_) (fun c32 => ?_)
      · try simp only [decide_eq_true_eq, decide_eq_false_iff_not, beq_iff_eq, bne_iff_ne, beq_eq_false_iff_ne, bne_eq_false_iff_eq, Bool.not_eq_true', Bool.not_eq_false', Bool.and_eq_true, Bool.or_eq_true, Bool.or_eq_false_iff, ne_eq, Decidable.not_not, Int.not_lt, Int.not_le] at c32
        refine dwp_exit ?_
        refine dwp_seq ?_
        refine dwp_region ?_
        refine walk_r rfl rfl rfl (op_move (.inr rfl) (ev1 rfl)) ?_
        refine walk_nil ?_
        refine dwp_ret ?_
        refine kend0 (rs1 rfl (rv_t rfl)) rfl ?_
        rfl
      · try simp only [decide_eq_true_eq, decide_eq_false_iff_not, beq_iff_eq, bne_iff_ne, beq_eq_false_iff_ne, bne_eq_false_iff_eq, Bool.not_eq_true', Bool.not_eq_false', Bool.and_eq_true, Bool.or_eq_true, Bool.or_eq_false_iff, ne_eq, Decidable.not_not, Int.not_lt, Int.not_le] at c32
        refine dwp_skip ?_
        refine dwp_seq ?_
        refine dwp_region ?_
        refine walk_r rfl rfl rfl (op_move (.inl rfl) (ev1 rfl)) ?_
        refine walk_r rfl rfl rfl (op_fa rfl fo28_1 (ev1 rfl)) ?_
        refine walk_r rfl rfl rfl (op_ldo rfl tb3 (ev1 rfl) rfl rfl) ?_
        refine walk_r rfl rfl rfl (op_fa rfl fo28_2 (ev1 rfl)) ?_
        refine walk_r rfl rfl rfl (op_ldo rfl tb26 (ev1 rfl) rfl rfl) ?_
        refine walk_r rfl rfl rfl (dop_call [] [] [] rfl (ev1 rfl) (ec (ev1 rfl) (ec (ev1 rfl) (ec (ev1 rfl) en))) rfl rfl (wk_nil2 (sz := 1) (put_w b pw pn (by simpa using hw))) rfl rfl rfl rfl rfl rfl) ?_
        refine walk_r rfl rfl rfl (op_move (.inl rfl) (ev1 rfl)) ?_
        refine walk_r rfl rfl rfl (op_ext rfl (ev1 rfl) rfl) ?_
        refine walk_r rfl rfl rfl (op_ext rfl (ev1 rfl) rfl) ?_
        refine walk_r rfl rfl rfl (op_move (.inr rfl) (ev1 rfl)) ?_
        refine walk_r rfl rfl rfl (op_move (.inr rfl) (ev1 rfl)) ?_
        refine walk_nil ?_
        refine dwp_seq ?_
        refine dwp_region ?_
        refine walk_r rfl rfl rfl (op_move (.inr rfl) (ev1 rfl)) ?_
        refine walk_nil ?_
        refine dwp_seq ?_
        refine dwp_region ?_
        refine walk_r rfl rfl rfl (op_move (.inr rfl) (ev1 rfl)) ?_
        refine walk_nil ?_
        refine dwp_seq ?_
        refine dwp_seq ?_
        refine dwp_region ?_
        refine walk_r rfl rfl rfl (op_fa rfl fo28_1 (ev1 rfl)) ?_
        refine walk_r rfl rfl rfl (op_ldo rfl tb3 (ev1 rfl) rfl rfl) ?_
        refine walk_r rfl rfl rfl (dop_call [] [] [] rfl (ev1 rfl) (ec (ev1 rfl) en) rfl rfl (refWidth_d _) rfl rfl rfl rfl rfl rfl) ?_
        refine walk_nil ?_
        refine dwp_if_f rfl (by simpa using hw) ?_
        refine dwp_skip ?_
        refine dwp_seq ?_
        refine dwp_region ?_
        refine walk_r rfl rfl rfl (op_move (.inl rfl) (ev1 rfl)) ?_
        refine walk_r rfl rfl rfl (op_fa rfl fo28_0 (ev1 rfl)) ?_
        refine walk_r rfl rfl rfl (op_ldo rfl tb3 (ev1 rfl) rfl rfl) ?_
        refine walk_r rfl rfl rfl (op_fa rfl fo28_1 (ev1 rfl)) ?_
        refine walk_r rfl rfl rfl (op_ldo rfl tb3 (ev1 rfl) rfl rfl) ?_
        refine walk_r rfl rfl rfl (dop_call [] [] [] rfl (ev1 rfl) (ec (ev1 rfl) (ec (ev1 rfl) (ec (ev1 rfl) en))) rfl rfl (get_m b pa pw (by omega)) rfl rfl rfl rfl rfl rfl) ?_
        refine walk_r rfl rfl rfl (op_move (.inl rfl) (ev1 rfl)) ?_
        refine walk_r rfl rfl rfl (op_ext rfl (ev1 rfl) rfl) ?_
        refine walk_r rfl rfl rfl (op_ext rfl (ev1 rfl) rfl) ?_
        refine walk_r rfl rfl rfl (op_move (.inr rfl) (ev1 rfl)) ?_
        refine walk_r rfl rfl rfl (op_move (.inr rfl) (ev1 rfl)) ?_
        refine walk_nil ?_
        refine dwp_seq ?_
        refine dwp_region ?_
        refine walk_r rfl rfl rfl (op_move (.inr rfl) (ev1 rfl)) ?_
        refine walk_r rfl rfl rfl (op_move (.inr rfl) (ev1 rfl)) ?_
        refine walk_nil ?_
        refine dwp_seq ?_
        refine dwp_seq ?_
        refine dwp_region ?_
        refine walk_r rfl rfl rfl (op_fa rfl fo28_1 (ev1 rfl)) ?_
        refine walk_r rfl rfl rfl (op_ldo rfl tb3 (ev1 rfl) rfl rfl) ?_
        refine walk_r rfl rfl rfl (dop_call [] [] [] rfl (ev1 rfl) (ec (ev1 rfl) en) rfl rfl (refWidth_d _) rfl rfl rfl rfl rfl rfl) ?_
        refine walk_nil ?_
        refine dwp_if_f rfl (by simpa using hw) ?_
        refine dwp_skip ?_
        refine dwp_seq ?_
        refine dwp_seq ?_
        refine dwp_region ?_
        refine walk_r rfl rfl rfl (op_move (.inl rfl) (ev1 rfl)) ?_
        refine walk_r rfl rfl rfl (op_move (.inl rfl) (ev1 rfl)) ?_
        refine walk_r rfl rfl rfl (op_neq rfl (ev1 rfl) (ev1 rfl)) ?_
        refine walk_r rfl rfl rfl (op_move (.inl rfl) (ev1 rfl)) ?_
        refine walk_gr (gd_f rfl rfl rfl) rfl rfl rfl (op_move (.inl rfl) (ev1 rfl)) ?_
        refine walk_gr (gd_f rfl rfl rfl) rfl rfl rfl (op_move (.inl rfl) (ev1 rfl)) ?_
        refine walk_gr (gd_f rfl rfl rfl) rfl rfl rfl (op_neq rfl (ev2 rfl) (ev2 rfl)) ?_
        refine walk_r rfl rfl rfl (op_or rfl (ev1 rfl) (ev3 rfl id)) ?_
        refine walk_r rfl rfl rfl (op_move (.inl rfl) (ev1 rfl)) ?_
        refine walk_gr (gd_f rfl rfl rfl) rfl rfl rfl (op_move (.inl rfl) (ev1 rfl)) ?_
        refine walk_gr (gd_f rfl rfl rfl) rfl rfl rfl (op_move (.inl rfl) (ev1 rfl)) ?_
        refine walk_gr (gd_f rfl rfl rfl) rfl rfl rfl (op_neq rfl (ev2 rfl) (ev2 rfl)) ?_
        refine walk_r rfl rfl rfl (op_or rfl (ev1 rfl) (ev3 rfl id)) ?_
        refine walk_r rfl rfl rfl (op_move (.inl rfl) (ev1 rfl)) ?_
        refine walk_gr (gd_f rfl rfl rfl) rfl rfl rfl (op_move (.inl rfl) (ev1 rfl)) ?_
        refine walk_gr (gd_f rfl rfl rfl) rfl rfl rfl (op_move (.inl rfl) (ev1 rfl)) ?_
        refine walk_gr (gd_f rfl rfl rfl) rfl rfl rfl (dop_call [] [] [] rfl (ev1 rfl) (ec (ev2 rfl) (ec (evnil 1 (ev2 rfl)) en)) rfl rfl (same_d [] []) rfl rfl rfl rfl rfl rfl) ?_
        refine walk_gr (gd_f rfl rfl rfl) rfl rfl rfl (op_not rfl (ev2 rfl)) ?_
        refine walk_r rfl rfl rfl (op_or rfl (ev1 rfl) (ev3 rfl id)) ?_
        refine walk_nil ?_
        refine dwp_if_f rfl (by unfold gotM; rw [if_neg hw]; simp) ?_
        refine dwp_skip ?_
        refine dwp_seq ?_
        refine dwp_seq ?_
        refine dwp_region ?_
        refine walk_r rfl rfl rfl (op_move (.inl rfl) (ev1 rfl)) ?_
        refine walk_r rfl rfl rfl (op_len rfl sl22 (ev1 rfl)) ?_
        refine walk_r rfl rfl rfl (op_move (.inl rfl) (ev1 rfl)) ?_
        refine walk_nil ?_
        refine dwp_block ?_
        refine dwp_dloop (dloop_step ?_)
        refine dwp_seq ?_
        refine dwp_region ?_
        refine walk_r rfl rfl rfl (op_lss rfl (ev1 rfl) (ev1 rfl)) ?_
        refine walk_nil ?_
        refine dwp_seq ?_
        refine dwp_if_f rfl (rfl) ?_
        refine dwp_exit ?_
        refine dwp_seq ?_
        refine dwp_region ?_
        refine walk_r rfl rfl rfl (op_move (.inl rfl) (ev1 rfl)) ?_
        refine walk_r rfl rfl rfl (op_move (.inl rfl) (ev1 rfl)) ?_
        refine walk_r rfl rfl rfl (dop_call [] [] [] rfl (ev1 rfl) (ec (ev1 rfl) en) rfl rfl (few_d _) rfl rfl rfl rfl rfl rfl) ?_
        refine walk_r rfl rfl rfl (dop_call [] [] [] rfl (ev1 rfl) (ec (ev1 rfl) (ec (ev1 rfl) en)) rfl rfl (equalB b (z.take (min z.length 60))) rfl rfl rfl rfl rfl rfl) ?_
        refine walk_r rfl rfl rfl (op_not rfl (ev1 rfl)) ?_
        refine walk_nil ?_
        refine dwp_if_f rfl (by rw [← hb]; simp) ?_
        refine dwp_skip ?_
        refine dwp_region ?_
        refine walk_r rfl rfl rfl (op_add' rfl (ev1 rfl) (ev1 rfl) (fun _ => IntWalk.i64_in _ (by omega))) ?_
        refine walk_r rfl rfl rfl (op_move (.inl rfl) (ev1 rfl)) ?_
        refine walk_nil ?_
        refine ⟨k + 1, [], by omega, by simp only []; omega, rfl, ⟨rfl, rfl, rfl, rfl, rfl, trivial⟩, trivial⟩
  · try simp only [decide_eq_true_eq, decide_eq_false_iff_not, beq_iff_eq, bne_iff_ne, beq_eq_false_iff_ne, bne_eq_false_iff_eq, Bool.not_eq_true', Bool.not_eq_false', Bool.and_eq_true, Bool.or_eq_true, Bool.or_eq_false_iff, ne_eq, Decidable.not_not, Int.not_lt, Int.not_le] at c2
    refine dwp_exit ?_
    refine dwp_seq ?_
    refine dwp_region ?_
    refine walk_r rfl rfl rfl (op_move (.inr rfl) (ev1 rfl)) ?_
    refine walk_nil ?_
    refine dwp_ret ?_
    refine kend0 (rs1 rfl (rv_t rfl)) rfl ?_
    rfl

end Go.Proofs.Ytfdekahbojoodaa
