/- rows in the order of the document -/
import Derived.Test.YtaekkjhpdendoaaDoorIf
namespace Go.Proofs.YtaekkjhpdendoaaDoor
set_option linter.unusedVariables false
set_option linter.unusedSimpArgs false
open Go.RowKit

set_option maxRecDepth 4000 in
set_option maxHeartbeats 1000000 in
theorem refSorted_d (l : List I3) (h : l.length < 20) : DFun Tryd.prog 18 [rowD l] [] (.arr 0) [.arr 27 3 l.length ((sortD l).flatMap idc)] := by
  refine dcalls_go (N := 42) 0 (by kernel_rfl) Tryd.func18 rfl rfl rfl (by simp only [fr0, Nat.zero_add, Nat.reduceAdd]; exact rfl) rfl fun s0 hs0 => ?_
  refine dwp_len (t := 0) rfl fun hl0 hL0 => ?_
  refine dwp_seq ?_
  refine dwp_region ?_
  refine walk_r rfl rfl rfl (op_move (.inr rfl) (ev1 rfl)) ?_
  refine walk_nil ?_
  refine dwp_seq ?_
  refine dwp_region ?_
  refine walk_r rfl rfl rfl (op_move (.inr rfl) (ev1 rfl)) ?_
  refine walk_nil ?_
  refine dwp_seq ?_
  refine dwp_seq ?_
  refine dwp_region ?_
  refine walk_r rfl rfl rfl (op_move (.inl rfl) (ev1 rfl)) ?_
  refine walk_r rfl rfl rfl (op_len rfl sl22 (ev1 rfl)) ?_
  refine walk_r rfl rfl rfl (op_move (.inl rfl) (ev1 rfl)) ?_
  refine walk_nil ?_
  refine dwp_block ?_
  refine dwp_adopt 3 27 3 rfl rfl rfl ?_
  refine dwp_loopS ⟨hs0, rfl⟩ (α := Nat) (fun k => [(9, .val (.int .i64 (k : Int)))]) [(3, _), (7, _), (8, _)] (fun k => [(0, .arr 27 3 k ((sortD (l.take k)).flatMap idc))]) [.hole] (fun k => k ≤ l.length) (fun k => l.length - k) 0 [0] (by simp) rfl ⟨rfl, rfl, rfl, trivial⟩ ⟨rfl, trivial⟩ ⟨rfl, trivial⟩ ?_
  intro k hx
  simp only [upd, List.set_cons_zero, List.set_cons_succ, List.cons_append, List.nil_append]
  have hk := hx
  have hol := sortD_len (l.take k)
  rw [List.length_take, Nat.min_eq_left hk] at hol
  obtain ⟨o, ho⟩ : ∃ o, o = sortD (l.take k) := ⟨_, rfl⟩
  rw [← ho] at hol ⊢
  refine dwp_seq ?_
  refine dwp_region ?_
  refine walk_r rfl rfl rfl (op_lss rfl (ev1 rfl) (ev1 rfl)) ?_
  refine walk_nil ?_
  refine dwp_seq ?_
  refine dwp_cond rfl (fun c1 => ?_) (fun c1 => ?_)
  · try simp only [decide_eq_true_eq, decide_eq_false_iff_not, beq_iff_eq, bne_iff_ne, beq_eq_false_iff_ne, bne_eq_false_iff_eq, Bool.not_eq_true', Bool.not_eq_false', Bool.and_eq_true, Bool.or_eq_true, Bool.or_eq_false_iff, ne_eq, Decidable.not_not, Int.not_lt, Int.not_le] at c1
    refine dwp_skip ?_
    refine dwp_seq ?_
    refine dwp_block ?_
    refine dwp_seq ?_
    refine dwp_holes 1 (by simp only [holes, List.cons_append, List.nil_append]; exact rfl) ?_
    refine dwp_region ?_
    refine walk_r rfl rfl rfl (op_ixsr (j := k) rfl sl22 (ev1 rfl) (ev1 rfl) (fun _ => rfl) (by decide) (by omega) (by omega)) ?_
    refine walk_r rfl rfl rfl (op_ldwd rfl tb27 (ev1 rfl) rfl) ?_
    refine walk_w rfl rfl rfl (op_alloc 1 rfl zr27 rfl) (by simp only [upd, List.set_cons_zero, List.set_cons_succ]; exact rfl) ?_
    refine walk_s rfl rfl (op_stwa rfl tb27 (ev1 rfl) (ev1 rfl) rfl rfl rfl rfl) (by simp only [upd, List.set_cons_zero, List.set_cons_succ]; exact rfl) ?_
    refine walk_nil ?_
    refine dwp_seq ?_
    refine dwp_region ?_
    refine walk_r rfl rfl rfl (op_move (.inr rfl) (ev1 rfl)) ?_
    refine walk_nil ?_
    refine dwp_seq ?_
    refine dwp_block ?_
    refine dwp_loopS ⟨hs0, rfl⟩ (α := Nat) (fun j => [(6, .val (.int .i64 (j : Int)))]) [(3, _), (5, _), (7, _), (8, _), (9, _)] (fun j => []) [_, _] (fun j => j ≤ o.length ∧ placeL o l[k] = j + placeL (o.drop j) l[k]) (fun j => o.length - j) 0 [0, 1] (by simp) rfl ⟨rfl, rfl, rfl, rfl, rfl, trivial⟩ ⟨rfl, trivial⟩ ⟨rfl, rfl, trivial⟩ ?_
    intro j hx
    simp only [upd, List.set_cons_zero, List.set_cons_succ, List.cons_append, List.nil_append]
    obtain ⟨hj, hpj⟩ := hx
    refine dwp_seq ?_
    refine dwp_seq ?_
    refine dwp_draw [([], []), ([], []), ([0], []), ([], []), ([], []), ([1], []), ([], []), ([], []), ([0], []), ([0], []), ([], []), ([], []), ([], [])] mixed (by kernel_rfl) ?_
    refine lex_r rfl rfl (op_move (.inl rfl) (ev1 rfl)) ?_
    refine lex_r rfl rfl (op_move (.inl rfl) (ev1 rfl)) ?_
    refine lex_r rfl rfl (op_lena rfl sl22 (ev1 rfl) rfl) ?_
    refine lex_r rfl rfl (op_lss rfl (ev1 rfl) (ev1 rfl)) ?_
    refine lex_r rfl rfl (op_move (.inl rfl) (ev1 rfl)) ?_
    refine lex_gr (gd_t rfl rfl rfl) rfl rfl (op_ldw rfl tb27 (ev1 rfl) rfl rfl) ?_
    refine lex_gr (gd_t rfl rfl rfl) rfl rfl (op_move (.inl rfl) (ev1 rfl)) ?_
    refine lex_gr (gd_t rfl rfl rfl) rfl rfl (op_move (.inl rfl) (ev1 rfl)) ?_
    refine lex_gr (gd_t rfl rfl rfl) rfl rfl (op_ixar (j := j) rfl sl22 (ev2 rfl) (ev2 rfl) rfl (fun hp => by first | rfl | omega | (simp at hp; omega)) (fun hp => by first | omega | (simp at hp; omega))) ?_
    refine lex_gr (gd_t rfl rfl rfl) rfl rfl (op_ldarg (zI) rfl tb27 (ev2 rfl) rfl (fun _ => rfl) (fun hp => by first | omega | (simp at hp; omega))) ?_
    refine lex_gr (gd_t rfl rfl rfl) rfl rfl (dop_call [] [] [] rfl (ev1 rfl) (ec (ev2 rfl) (ec (ev2 rfl) en)) rfl rfl (less_d _ _) rfl rfl rfl rfl rfl rfl) ?_
    refine lex_gr (gd_t rfl rfl rfl) rfl rfl (op_not rfl (ev2 rfl)) ?_
    refine lex_r rfl rfl (op_and rfl (ev1 rfl) (ev3 rfl id)) ?_
    refine lex_nil ?_
    refine dwp_cond rfl (fun c2 => ?_) (fun c2 => ?_)
    · have c3 : j < o.length := by simp at c2; omega
      have c4 : lessR l[k] o[j] = false := by
        rw [getD_at c3] at c2
        simp at c2
        exact c2.2
      refine dwp_skip ?_
      refine dwp_block ?_
      refine dwp_region ?_
      refine walk_r rfl rfl rfl (op_move (.inl rfl) (ev1 rfl)) ?_
      refine walk_r rfl rfl rfl (op_add' rfl (ev1 rfl) (ev1 rfl) (fun _ => IntWalk.i64_in _ (by omega))) ?_
      refine walk_r rfl rfl rfl (op_move (.inr rfl) (ev1 rfl)) ?_
      refine walk_nil ?_
      have e2 : placeL o l[k] = (j + 1) + placeL (o.drop (j + 1)) l[k] := by rw [hpj, placeL_drop c3, c4]; simp; omega
      refine ⟨j + 1, [0, 1], ⟨by omega, e2⟩, by simp only []; omega, rfl, ⟨rfl, rfl, rfl, rfl, rfl, rfl, trivial⟩, ⟨rfl, rfl, trivial⟩⟩
    · have hpl : placeL o l[k] = j := by
        by_cases hlt : j < o.length
        · have : lessR l[k] o[j] = true := by
            rw [getD_at hlt] at c2
            simp at c2
            exact c2 (by omega)
          rw [hpj, placeL_drop hlt, this]; rfl
        · rw [hpj, List.drop_of_length_le (by omega)]; rfl
      refine dwp_exit ?_
      refine dwp_holes 4 (by simp only [holes, List.cons_append, List.nil_append]; exact rfl) ?_
      refine dwp_draw [([2], [2]), ([], []), ([], []), ([0], []), ([2, 3, 0], [2, 3]), ([1], []), ([], []), ([3, 4], [3, 4]), ([], []), ([], []), ([0], []), ([4, 5, 0], [4, 5]), ([], [])] mixed (by kernel_rfl) ?_
      refine lex_w rfl rfl (op_bsa (ps := []) 2 rfl sl22 zr27 rfl vn rfl (by decide) (by decide) rfl) rfl (by simp only [upd, List.set_cons_zero, List.set_cons_succ]; exact rfl) ?_
      refine lex_r rfl rfl (op_move (.inl rfl) (ev1 rfl)) ?_
      refine lex_r rfl rfl (op_move (.inl rfl) (ev1 rfl)) ?_
      refine lex_r rfl rfl (op_sla rfl sl22 (ev1 rfl) rfl bd_none (bd_some (ev1 rfl)) (fun _ => by omega)) ?_
      refine lex_w rfl rfl (op_app (j := 3) rfl sl22 zr27 rfl (ev1 rfl) (ev1 rfl) (src_own rfl rfl) rfl rfl (fun _ => part_oc (flat_oc (fun _ => rfl) o) _ _) (fun _ => ⟨by omega, by omega⟩)) rfl (by simp only [upd, List.set_cons_zero, List.set_cons_succ]; exact rfl) ?_
      refine lex_r rfl rfl (op_ldw rfl tb27 (ev1 rfl) rfl rfl) ?_
      refine lex_r rfl rfl (op_bs (ps := [(0, .tmp 33)]) rfl sl22 zr27 rfl (vc (ev1 rfl) vn) rfl (by decide) (by decide)) ?_
      refine lex_w rfl rfl (op_app (j := 4) rfl sl22 zr27 rfl (ev1 rfl) (ev1 rfl) src_slf rfl rfl (fun _ => rfl) (fun _ => ⟨by omega, by omega⟩)) rfl (by simp only [upd, List.set_cons_zero, List.set_cons_succ]; exact rfl) ?_
      refine lex_r rfl rfl (op_move (.inl rfl) (ev1 rfl)) ?_
      refine lex_r rfl rfl (op_move (.inl rfl) (ev1 rfl)) ?_
      refine lex_r rfl rfl (op_sla rfl sl22 (ev1 rfl) rfl (bd_some (ev1 rfl)) bd_none (fun _ => by omega)) ?_
      refine lex_w rfl rfl (op_app (j := 5) rfl sl22 zr27 rfl (ev1 rfl) (ev1 rfl) (src_own rfl rfl) rfl rfl (fun _ => part_oc (flat_oc (fun _ => rfl) o) _ _) (fun _ => ⟨by omega, by omega⟩)) rfl (by simp only [upd, List.set_cons_zero, List.set_cons_succ]; exact rfl) ?_
      refine lex_r rfl rfl (op_move (.inr rfl) (ev1 rfl)) ?_
      refine lex_nil ?_
      refine dwp_region ?_
      refine walk_r rfl rfl rfl (op_add' rfl (ev1 rfl) (ev1 rfl) (fun _ => IntWalk.i64_in _ (by omega))) ?_
      refine walk_r rfl rfl rfl (op_move (.inl rfl) (ev1 rfl)) ?_
      refine walk_nil ?_
      have e3 : sortD (l.take (k + 1)) = o.take j ++ l[k] :: o.drop j := by rw [sortD_take (by omega), ← ho, insL, hpl]
      refine ⟨k + 1, [5], by omega, by simp only []; omega, rfl, ⟨rfl, rfl, rfl, rfl, trivial⟩, ⟨by rw [e3, ← ins_row hj]; exact arr_eq (by simp; omega) (by rw [show ((k : Int)).toNat - ((j : Int)).toNat = o.length - j by omega]; simp only [Int.toNat_natCast, Int.toNat_zero, Nat.sub_zero]; rfl), trivial⟩⟩
  · try simp only [decide_eq_true_eq, decide_eq_false_iff_not, beq_iff_eq, bne_iff_ne, beq_eq_false_iff_ne, bne_eq_false_iff_eq, Bool.not_eq_true', Bool.not_eq_false', Bool.and_eq_true, Bool.or_eq_true, Bool.or_eq_false_iff, ne_eq, Decidable.not_not, Int.not_lt, Int.not_le] at c1
    refine dwp_exit ?_
    refine dwp_seq ?_
    refine dwp_region ?_
    refine walk_r rfl rfl rfl (op_move (.inl rfl) (ev1 rfl)) ?_
    refine walk_r rfl rfl rfl (op_move (.inr rfl) (ev1 rfl)) ?_
    refine walk_nil ?_
    refine dwp_ret ?_
    obtain rfl : k = l.length := by omega
    rw [List.take_length] at ho
    rw [← ho]
    refine kend [0] (rs1 rfl (rv_t rfl)) rfl rfl ?_ ⟨rfl, trivial⟩
    rfl

end Go.Proofs.YtaekkjhpdendoaaDoor
