/- what the document asks: bytes that are sealed, opened, spoilt -/
import Derived.Test.YtnpfbeoibbejeaaKp
namespace Go.Proofs.Ytnpfbeoibbejeaa
set_option linter.unusedVariables false
set_option linter.unusedSimpArgs false
open Go.RowKit

set_option maxRecDepth 4000 in
set_option maxHeartbeats 1000000 in
theorem seal_r (l : List Nat) (hl : isN l) (hll : l.length ≤ 1000000) : DFun Try.prog 19 [.slf 1 (l).length ((l).flatMap un8)] [] (.arr 0) [.arr 5 1 (sealC l).length (((sealC l)).flatMap un8)] := by
  refine dcalls_go (N := 10) 0 (by kernel_rfl) Try.func19 rfl rfl rfl (by simp only [fr0, Nat.zero_add, Nat.reduceAdd]; exact rfl) rfl fun s0 hs0 => ?_
  refine dwp_len (t := 0) rfl fun hl0 hL0 => ?_
  refine dwp_seq ?_
  refine dwp_region ?_
  refine walk_r rfl rfl rfl (op_move (.inr rfl) (ev1 rfl)) ?_
  refine walk_nil ?_
  refine dwp_seq ?_
  have hml := more_lt hl (show 0 < 2 ^ 32 by decide)
  refine dwp_holes 3 (by simp only [holes, List.cons_append, List.nil_append]; exact rfl) ?_
  refine dwp_region ?_
  refine walk_w rfl rfl rfl (op_bsa (ps := []) 0 rfl sl25 zr5 rfl vn rfl (by decide) (by decide) rfl) (by simp only [upd, List.set_cons_zero, List.set_cons_succ]; exact rfl) ?_
  refine walk_r rfl rfl rfl (op_move (.inl rfl) (ev1 rfl)) ?_
  refine walk_w rfl rfl rfl (op_app (j := 1) rfl sl25 zr5 rfl (ev1 rfl) (ev1 rfl) src_slf rfl rfl (fun _ => flat_oc (fun _ => rfl) _) (fun _ => ⟨by omega, by omega⟩)) (by simp only [upd, List.set_cons_zero, List.set_cons_succ]; exact rfl) ?_
  refine walk_r rfl rfl rfl (op_move (.inl rfl) (ev1 rfl)) ?_
  refine walk_r rfl rfl rfl (dop_call [] [] [] rfl (ev1 rfl) (ec (ev1 rfl) en) rfl rfl (sum_r l hl hll) rfl rfl rfl rfl rfl rfl) ?_
  refine walk_r rfl rfl rfl (dop_call [] [] [] rfl (ev1 rfl) (ec (ev1 rfl) en) rfl rfl (four_r (moreC 0 l) hml) rfl rfl rfl rfl rfl rfl) ?_
  refine walk_w rfl rfl rfl (op_app (j := 2) rfl sl25 zr5 rfl (ev1 rfl) (ev1 rfl) src_slf rfl rfl (fun _ => flat_oc (fun _ => rfl) _) (fun _ => ⟨by rw [four_len]; omega, by rw [four_len]; omega⟩)) (by simp only [upd, List.set_cons_zero, List.set_cons_succ]; exact rfl) ?_
  refine walk_r rfl rfl rfl (op_move (.inr rfl) (ev1 rfl)) ?_
  refine walk_nil ?_
  refine dwp_ret ?_
  refine kend [2] (rs1 rfl (rv_t rfl)) rfl rfl ?_ ⟨?_, trivial⟩
  rfl
  exact arr_eq (by rw [sealC_len, four_len]; omega) (by rw [sealC, List.flatMap_append]; rfl)

theorem tail_at {l : List Nat} {w k : Nat} (hx : four w = l.drop (l.length - 4)) (hk : k < 4) (h : 4 ≤ l.length) : l[l.length - 4 + k]'(by omega) = (four w)[k]'hk := by
  have e : (l.drop (l.length - 4))[k]? = (four w)[k]? := by rw [hx]
  rw [List.getElem?_drop, List.getElem?_eq_getElem (by omega), List.getElem?_eq_getElem (by exact hk)] at e
  exact Option.some.inj e
theorem tail_all {l : List Nat} {w : Nat} (h : 4 ≤ l.length) (hx : ∀ j, j < 4 → l.getD (l.length - 4 + j) 0 = (four w).getD j 0) : four w = l.drop (l.length - 4) := by
  apply List.ext_getElem
  · rw [List.length_drop, four_len]; omega
  · intro j h1 h2
    have := hx j h1
    rw [List.getD_eq_getElem?_getD, List.getD_eq_getElem?_getD, List.getElem?_eq_getElem (by rw [List.length_drop] at h2; omega), List.getElem?_eq_getElem h1] at this
    rw [List.getElem_drop]
    exact this.symm

set_option maxRecDepth 4000 in
set_option maxHeartbeats 1000000 in
theorem openr_few (l : List Nat) (h : l.length < 4) : DFun Try.prog 21 [.slf 1 (l).length ((l).flatMap un8)] [] (.tup [.val (.slice none 0 0), .val (.bool false)]) [] := by
  refine dcalls_go (N := 37) 0 (by kernel_rfl) Try.func21 rfl rfl rfl (by simp only [fr0, Nat.zero_add, Nat.reduceAdd]; exact rfl) rfl fun s0 hs0 => ?_
  refine dwp_len (t := 0) rfl fun hl0 hL0 => ?_
  refine dwp_seq ?_
  refine dwp_region ?_
  refine walk_r rfl rfl rfl (op_move (.inr rfl) (ev1 rfl)) ?_
  refine walk_r rfl rfl rfl (op_move (.inr rfl) (ev1 rfl)) ?_
  refine walk_nil ?_
  refine dwp_seq ?_
  refine dwp_region ?_
  refine walk_r rfl rfl rfl (op_move (.inl rfl) (ev1 rfl)) ?_
  refine walk_r rfl rfl rfl (op_len rfl sl25 (ev1 rfl)) ?_
  refine walk_r rfl rfl rfl (op_sub' rfl (ev1 rfl) (ev1 rfl) (fun _ => IntWalk.i64_in _ (by omega))) ?_
  refine walk_r rfl rfl rfl (op_move (.inr rfl) (ev1 rfl)) ?_
  refine walk_nil ?_
  refine dwp_seq ?_
  refine dwp_seq ?_
  refine dwp_region ?_
  refine walk_r rfl rfl rfl (op_move (.inl rfl) (ev1 rfl)) ?_
  refine walk_r rfl rfl rfl (op_lss rfl (ev1 rfl) (ev1 rfl)) ?_
  refine walk_nil ?_
  refine dwp_if_t rfl (by simp; omega) ?_
  refine dwp_seq ?_
  refine dwp_region ?_
  refine walk_r rfl rfl rfl (op_move (.inr rfl) (ev1 rfl)) ?_
  refine walk_r rfl rfl rfl (op_move (.inr rfl) (ev1 rfl)) ?_
  refine walk_nil ?_
  refine dwp_ret ?_
  refine kend0 (rs2 rfl (rv_t rfl) (rv_t rfl)) rfl ?_
  rfl

set_option maxRecDepth 4000 in
set_option maxHeartbeats 1000000 in
theorem openr_o (l : List Nat) (hn : isN l) (hl : l.length ≤ 1000000) (h : 4 ≤ l.length) (hx : four (moreC 0 (l.take (l.length - 4))) = l.drop (l.length - 4)) : DFun Try.prog 21 [.slf 1 (l).length ((l).flatMap un8)] [] (.tup [.arr 0, .val (.bool true)]) [.arr 5 1 (l.take (l.length - 4)).length (((l.take (l.length - 4))).flatMap un8)] := by
  refine dcalls_go (N := 37) 0 (by kernel_rfl) Try.func21 rfl rfl rfl (by simp only [fr0, Nat.zero_add, Nat.reduceAdd]; exact rfl) rfl fun s0 hs0 => ?_
  refine dwp_len (t := 0) rfl fun hl0 hL0 => ?_
  refine dwp_seq ?_
  refine dwp_region ?_
  refine walk_r rfl rfl rfl (op_move (.inr rfl) (ev1 rfl)) ?_
  refine walk_r rfl rfl rfl (op_move (.inr rfl) (ev1 rfl)) ?_
  refine walk_nil ?_
  refine dwp_seq ?_
  refine dwp_region ?_
  refine walk_r rfl rfl rfl (op_move (.inl rfl) (ev1 rfl)) ?_
  refine walk_r rfl rfl rfl (op_len rfl sl25 (ev1 rfl)) ?_
  refine walk_r rfl rfl rfl (op_sub' rfl (ev1 rfl) (ev1 rfl) (fun _ => IntWalk.i64_in _ (by omega))) ?_
  refine walk_r rfl rfl rfl (op_move (.inr rfl) (ev1 rfl)) ?_
  refine walk_nil ?_
  refine dwp_seq ?_
  refine dwp_seq ?_
  refine dwp_region ?_
  refine walk_r rfl rfl rfl (op_move (.inl rfl) (ev1 rfl)) ?_
  refine walk_r rfl rfl rfl (op_lss rfl (ev1 rfl) (ev1 rfl)) ?_
  refine walk_nil ?_
  refine dwp_if_f rfl (by simp; omega) ?_
  refine dwp_skip ?_
  refine dwp_seq ?_
  refine dwp_seq ?_
  have h4l : (four (moreC 0 (l.take (l.length - 4)))).length = 4 := rfl
  have hbn : isN (l.take (l.length - 4)) := fun x hx => hn x (List.mem_of_mem_take hx)
  have hml := more_lt hbn (show 0 < 2 ^ 32 by decide)
  refine dwp_region ?_
  refine walk_r rfl rfl rfl (op_move (.inl rfl) (ev1 rfl)) ?_
  refine walk_r rfl rfl rfl (op_move (.inl rfl) (ev1 rfl)) ?_
  refine walk_r rfl rfl rfl (op_sltk (j := (l.length - 4)) rfl sl25 (ev1 rfl) (bd_some (ev1 rfl)) (fun _ => by omega) (fun _ => by omega) (fun _ => rfl)) ?_
  refine walk_r rfl rfl rfl (dop_call [] [] [] rfl (ev1 rfl) (ec (ev1 rfl) en) rfl rfl (sum_r (l.take (l.length - 4)) hbn (by rw [List.length_take]; omega)) rfl rfl rfl rfl rfl rfl) ?_
  refine walk_r rfl rfl rfl (dop_call [] [] [] rfl (ev1 rfl) (ec (ev1 rfl) en) rfl rfl (four_r _ hml) rfl rfl rfl rfl rfl rfl) ?_
  refine walk_r rfl rfl rfl (op_len rfl sl25 (ev1 rfl)) ?_
  refine walk_r rfl rfl rfl (op_move (.inl rfl) (ev1 rfl)) ?_
  refine walk_nil ?_
  refine dwp_block ?_
  refine dwp_loopS ⟨hs0, rfl⟩ (α := Nat) (fun k => [(18, .val (.int .i64 (k : Int)))]) [(0, _), (4, _), (16, _), (17, _)] (fun k => []) [] (fun k => k ≤ 4) (fun k => 4 - k) 0 [] (by simp) rfl ⟨rfl, rfl, rfl, rfl, trivial⟩ ⟨rfl, trivial⟩ trivial ?_
  intro k hx_
  simp only [upd, List.set_cons_zero, List.set_cons_succ, List.cons_append, List.nil_append]
  have hk := hx_
  refine dwp_seq ?_
  refine dwp_region ?_
  refine walk_r rfl rfl rfl (op_lss rfl (ev1 rfl) (ev1 rfl)) ?_
  refine walk_nil ?_
  refine dwp_seq ?_
  refine dwp_cond rfl (fun c2 => ?_) (fun c2 => ?_)
  · try simp only [decide_eq_true_eq, decide_eq_false_iff_not, beq_iff_eq, bne_iff_ne, beq_eq_false_iff_ne, bne_eq_false_iff_eq, Bool.not_eq_true', Bool.not_eq_false', Bool.and_eq_true, Bool.or_eq_true, Bool.or_eq_false_iff, ne_eq, Decidable.not_not, Int.not_lt, Int.not_le] at c2
    refine dwp_skip ?_
    refine dwp_seq ?_
    refine dwp_block ?_
    refine dwp_seq ?_
    refine dwp_region ?_
    refine walk_r rfl rfl rfl (op_move (.inl rfl) (ev1 rfl)) ?_
    refine walk_r rfl rfl rfl (op_ixsr (j := k) rfl sl25 (ev1 rfl) (ev1 rfl) (fun _ => rfl) (by decide) (by omega) (by omega)) ?_
    refine walk_r rfl rfl rfl (op_ldod rfl tb5 (ev1 rfl) rfl) ?_
    refine walk_r rfl rfl rfl (op_move (.inr rfl) (ev1 rfl)) ?_
    refine walk_r rfl rfl rfl (op_move (.inr rfl) (ev1 rfl)) ?_
    refine walk_nil ?_
    refine dwp_seq ?_
    refine dwp_region ?_
    refine walk_r rfl rfl rfl (op_move (.inl rfl) (ev1 rfl)) ?_
    refine walk_r rfl rfl rfl (op_move (.inl rfl) (ev1 rfl)) ?_
    refine walk_r rfl rfl rfl (op_move (.inl rfl) (ev1 rfl)) ?_
    refine walk_r rfl rfl rfl (op_add' rfl (ev1 rfl) (ev1 rfl) (fun _ => IntWalk.i64_in _ (by omega))) ?_
    refine walk_r rfl rfl rfl (op_ixsr (j := (l.length - 4 + k)) rfl sl25 (ev1 rfl) (ev1 rfl) (fun _ => rfl) (by decide) (by omega) (by omega)) ?_
    refine walk_r rfl rfl rfl (op_ldod rfl tb5 (ev1 rfl) rfl) ?_
    refine walk_r rfl rfl rfl (op_move (.inl rfl) (ev1 rfl)) ?_
    refine walk_r rfl rfl rfl (op_neq rfl (ev1 rfl) (ev1 rfl)) ?_
    refine walk_nil ?_
    refine dwp_if_f rfl (by rw [tail_at hx (by omega) h]; simp; rfl) ?_
    refine dwp_skip ?_
    refine dwp_region ?_
    refine walk_r rfl rfl rfl (op_add' rfl (ev1 rfl) (ev1 rfl) (fun _ => IntWalk.i64_in _ (by omega))) ?_
    refine walk_r rfl rfl rfl (op_move (.inl rfl) (ev1 rfl)) ?_
    refine walk_nil ?_
    refine ⟨k + 1, [], by omega, by simp only []; omega, rfl, ⟨rfl, rfl, rfl, rfl, rfl, trivial⟩, trivial⟩
  · try simp only [decide_eq_true_eq, decide_eq_false_iff_not, beq_iff_eq, bne_iff_ne, beq_eq_false_iff_ne, bne_eq_false_iff_eq, Bool.not_eq_true', Bool.not_eq_false', Bool.and_eq_true, Bool.or_eq_true, Bool.or_eq_false_iff, ne_eq, Decidable.not_not, Int.not_lt, Int.not_le] at c2
    refine dwp_exit ?_
    refine dwp_seq ?_
    refine dwp_holes 2 (by simp only [holes, List.cons_append, List.nil_append]; exact rfl) ?_
    refine dwp_region ?_
    refine walk_w rfl rfl rfl (op_bsa (ps := []) 0 rfl sl25 zr5 rfl vn rfl (by decide) (by decide) rfl) (by simp only [upd, List.set_cons_zero, List.set_cons_succ]; exact rfl) ?_
    refine walk_r rfl rfl rfl (op_move (.inl rfl) (ev1 rfl)) ?_
    refine walk_r rfl rfl rfl (op_move (.inl rfl) (ev1 rfl)) ?_
    refine walk_r rfl rfl rfl (op_sltk (j := (l.length - 4)) rfl sl25 (ev1 rfl) (bd_some (ev1 rfl)) (fun _ => by omega) (fun _ => by omega) (fun _ => rfl)) ?_
    refine walk_w rfl rfl rfl (op_app (j := 1) rfl sl25 zr5 rfl (ev1 rfl) (ev1 rfl) src_slf rfl rfl (fun _ => flat_oc (fun _ => rfl) _) (fun _ => ⟨by rw [List.length_take]; omega, by rw [List.length_take]; omega⟩)) (by simp only [upd, List.set_cons_zero, List.set_cons_succ]; exact rfl) ?_
    refine walk_r rfl rfl rfl (op_move (.inr rfl) (ev1 rfl)) ?_
    refine walk_r rfl rfl rfl (op_move (.inr rfl) (ev1 rfl)) ?_
    refine walk_nil ?_
    refine dwp_ret ?_
    refine kend [1] (rs2 rfl (rv_t rfl) (rv_t rfl)) rfl rfl ?_ ⟨?_, trivial⟩
    rfl
    exact arr_eq (by simp) (by simp)

set_option maxRecDepth 4000 in
set_option maxHeartbeats 1000000 in
theorem openr_no (l : List Nat) (hn : isN l) (hl : l.length ≤ 1000000) (h : 4 ≤ l.length) (hx : ¬ four (moreC 0 (l.take (l.length - 4))) = l.drop (l.length - 4)) : DFun Try.prog 21 [.slf 1 (l).length ((l).flatMap un8)] [] (.tup [.val (.slice none 0 0), .val (.bool false)]) [] := by
  refine dcalls_go (N := 37) 0 (by kernel_rfl) Try.func21 rfl rfl rfl (by simp only [fr0, Nat.zero_add, Nat.reduceAdd]; exact rfl) rfl fun s0 hs0 => ?_
  refine dwp_len (t := 0) rfl fun hl0 hL0 => ?_
  refine dwp_seq ?_
  refine dwp_region ?_
  refine walk_r rfl rfl rfl (op_move (.inr rfl) (ev1 rfl)) ?_
  refine walk_r rfl rfl rfl (op_move (.inr rfl) (ev1 rfl)) ?_
  refine walk_nil ?_
  refine dwp_seq ?_
  refine dwp_region ?_
  refine walk_r rfl rfl rfl (op_move (.inl rfl) (ev1 rfl)) ?_
  refine walk_r rfl rfl rfl (op_len rfl sl25 (ev1 rfl)) ?_
  refine walk_r rfl rfl rfl (op_sub' rfl (ev1 rfl) (ev1 rfl) (fun _ => IntWalk.i64_in _ (by omega))) ?_
  refine walk_r rfl rfl rfl (op_move (.inr rfl) (ev1 rfl)) ?_
  refine walk_nil ?_
  refine dwp_seq ?_
  refine dwp_seq ?_
  refine dwp_region ?_
  refine walk_r rfl rfl rfl (op_move (.inl rfl) (ev1 rfl)) ?_
  refine walk_r rfl rfl rfl (op_lss rfl (ev1 rfl) (ev1 rfl)) ?_
  refine walk_nil ?_
  refine dwp_if_f rfl (by simp; omega) ?_
  refine dwp_skip ?_
  refine dwp_seq ?_
  refine dwp_seq ?_
  have h4l : (four (moreC 0 (l.take (l.length - 4)))).length = 4 := rfl
  have hbn : isN (l.take (l.length - 4)) := fun x hx => hn x (List.mem_of_mem_take hx)
  have hml := more_lt hbn (show 0 < 2 ^ 32 by decide)
  refine dwp_region ?_
  refine walk_r rfl rfl rfl (op_move (.inl rfl) (ev1 rfl)) ?_
  refine walk_r rfl rfl rfl (op_move (.inl rfl) (ev1 rfl)) ?_
  refine walk_r rfl rfl rfl (op_sltk (j := (l.length - 4)) rfl sl25 (ev1 rfl) (bd_some (ev1 rfl)) (fun _ => by omega) (fun _ => by omega) (fun _ => rfl)) ?_
  refine walk_r rfl rfl rfl (dop_call [] [] [] rfl (ev1 rfl) (ec (ev1 rfl) en) rfl rfl (sum_r (l.take (l.length - 4)) hbn (by rw [List.length_take]; omega)) rfl rfl rfl rfl rfl rfl) ?_
  refine walk_r rfl rfl rfl (dop_call [] [] [] rfl (ev1 rfl) (ec (ev1 rfl) en) rfl rfl (four_r _ hml) rfl rfl rfl rfl rfl rfl) ?_
  refine walk_r rfl rfl rfl (op_len rfl sl25 (ev1 rfl)) ?_
  refine walk_r rfl rfl rfl (op_move (.inl rfl) (ev1 rfl)) ?_
  refine walk_nil ?_
  refine dwp_block ?_
  refine dwp_loopS ⟨hs0, rfl⟩ (α := Nat) (fun k => [(18, .val (.int .i64 (k : Int)))]) [(0, _), (4, _), (16, _), (17, _)] (fun k => []) [] (fun k => k ≤ 4 ∧ ∀ j, j < k → l.getD (l.length - 4 + j) 0 = (four (moreC 0 (l.take (l.length - 4)))).getD j 0) (fun k => 4 - k) 0 [] (⟨by omega, fun j hj => by omega⟩) rfl ⟨rfl, rfl, rfl, rfl, trivial⟩ ⟨rfl, trivial⟩ trivial ?_
  intro k hx_
  simp only [upd, List.set_cons_zero, List.set_cons_succ, List.cons_append, List.nil_append]
  obtain ⟨hk, hall⟩ := hx_
  refine dwp_seq ?_
  refine dwp_region ?_
  refine walk_r rfl rfl rfl (op_lss rfl (ev1 rfl) (ev1 rfl)) ?_
  refine walk_nil ?_
  refine dwp_seq ?_
  refine dwp_cond rfl (fun hcc => ?_) (fun hcc => ?_)
  · have hcc3 := of_decide_eq_true hcc
    refine dwp_skip ?_
    refine dwp_seq ?_
    refine dwp_block ?_
    refine dwp_seq ?_
    refine dwp_region ?_
    refine walk_r rfl rfl rfl (op_move (.inl rfl) (ev1 rfl)) ?_
    refine walk_r rfl rfl rfl (op_ixsr (j := k) rfl sl25 (ev1 rfl) (ev1 rfl) (fun _ => rfl) (by decide) (by omega) (by omega)) ?_
    refine walk_r rfl rfl rfl (op_ldod rfl tb5 (ev1 rfl) rfl) ?_
    refine walk_r rfl rfl rfl (op_move (.inr rfl) (ev1 rfl)) ?_
    refine walk_r rfl rfl rfl (op_move (.inr rfl) (ev1 rfl)) ?_
    refine walk_nil ?_
    refine dwp_seq ?_
    refine dwp_region ?_
    refine walk_r rfl rfl rfl (op_move (.inl rfl) (ev1 rfl)) ?_
    refine walk_r rfl rfl rfl (op_move (.inl rfl) (ev1 rfl)) ?_
    refine walk_r rfl rfl rfl (op_move (.inl rfl) (ev1 rfl)) ?_
    refine walk_r rfl rfl rfl (op_add' rfl (ev1 rfl) (ev1 rfl) (fun _ => IntWalk.i64_in _ (by omega))) ?_
    refine walk_r rfl rfl rfl (op_ixsr (j := (l.length - 4 + k)) rfl sl25 (ev1 rfl) (ev1 rfl) (fun _ => rfl) (by decide) (by omega) (by omega)) ?_
    refine walk_r rfl rfl rfl (op_ldod rfl tb5 (ev1 rfl) rfl) ?_
    refine walk_r rfl rfl rfl (op_move (.inl rfl) (ev1 rfl)) ?_
    refine walk_r rfl rfl rfl (op_neq rfl (ev1 rfl) (ev1 rfl)) ?_
    refine walk_nil ?_
    refine dwp_cond rfl (fun hne => ?_) (fun hne => ?_)
    · skip
      refine dwp_seq ?_
      refine dwp_region ?_
      refine walk_r rfl rfl rfl (op_move (.inr rfl) (ev1 rfl)) ?_
      refine walk_r rfl rfl rfl (op_move (.inr rfl) (ev1 rfl)) ?_
      refine walk_nil ?_
      refine dwp_ret ?_
      refine kend0 (rs2 rfl (rv_t rfl) (rv_t rfl)) rfl ?_
      rfl
    · have hek : l[l.length - 4 + k] = (four (moreC 0 (l.take (l.length - 4))))[k] := by simp at hne; omega
      have hall2 : ∀ j, j < k + 1 → l.getD (l.length - 4 + j) 0 = (four (moreC 0 (l.take (l.length - 4)))).getD j 0 := fun j hj => by
        by_cases e : j = k
        · subst e; rw [List.getD_eq_getElem?_getD, List.getD_eq_getElem?_getD, List.getElem?_eq_getElem (by omega), List.getElem?_eq_getElem (by omega)]; exact hek
        · exact hall j (by omega)
      refine dwp_skip ?_
      refine dwp_region ?_
      refine walk_r rfl rfl rfl (op_add' rfl (ev1 rfl) (ev1 rfl) (fun _ => IntWalk.i64_in _ (by omega))) ?_
      refine walk_r rfl rfl rfl (op_move (.inl rfl) (ev1 rfl)) ?_
      refine walk_nil ?_
      refine ⟨k + 1, [], ⟨by omega, hall2⟩, by simp only []; omega, rfl, ⟨rfl, rfl, rfl, rfl, rfl, trivial⟩, trivial⟩
  · exact absurd (tail_all h fun j hj => hall j (by have := of_decide_eq_false hcc; omega)) hx

theorem spl_xor (A B : Nat) (l : List Nat) : spl (A ^^^ B) l = spl B (spl A l) := by
  apply List.ext_getElem?
  intro k
  rw [spl_at, spl_at, spl_at]
  cases l[k]? with
  | none => rfl
  | some x =>
    simp only [Option.map_some]
    congr 1
    rw [Nat.shiftRight_xor_distrib, show (256 : Nat) = 2 ^ 8 from rfl, Nat.xor_mod_two_pow, Nat.xor_assoc]
theorem byte_one (n k : Nat) : ((1 <<< n) >>> (8 * k)) % 256 = if k = n / 8 then 1 <<< (n % 8) else 0 := by
  apply Nat.eq_of_testBit_eq
  intro i
  rw [show (256 : Nat) = 2 ^ 8 from rfl, Nat.testBit_mod_two_pow, Nat.testBit_shiftRight, one_shl]
  split
  · rename_i h
    rw [one_shl, Bool.eq_iff_iff]
    simp only [Bool.and_eq_true, decide_eq_true_eq]
    omega
  · rename_i h
    rw [Nat.zero_testBit, Bool.eq_iff_iff]
    simp only [Bool.and_eq_true, decide_eq_true_eq, Bool.false_eq_true, iff_false]
    omega
theorem spl_one {n : Nat} {l : List Nat} (h : n < 8 * l.length) : spl (1 <<< n) l = l.set (n / 8) (l[n / 8]'(by omega) ^^^ (1 <<< (n % 8))) := by
  apply List.ext_getElem?
  intro k
  rw [spl_at, byte_one, List.getElem?_set]
  by_cases e : n / 8 = k
  · subst e
    rw [if_pos rfl, if_pos rfl, if_pos (by omega), List.getElem?_eq_getElem (by omega)]
    rfl
  · rw [if_neg (Ne.symm e), if_neg e]
    cases l[k]? with
    | none => rfl
    | some x => simp
theorem spl_far {n : Nat} {l : List Nat} (h : 8 * l.length ≤ n) : spl (1 <<< n) l = l := by
  apply List.ext_getElem?
  intro k
  rw [spl_at, byte_one]
  by_cases hk : k < l.length
  · rw [if_neg (by omega), List.getElem?_eq_getElem hk]
    simp
  · rw [List.getElem?_eq_none (by omega)]
    rfl
theorem spl_zero (l : List Nat) : spl 0 l = l := by
  apply List.ext_getElem?
  intro k
  rw [spl_at]
  cases l[k]? with
  | none => rfl
  | some x => simp
/-- the first bits of a mask, laid -/
def mD (mask bit i : Nat) : Nat := (mask % 2 ^ i) <<< bit
theorem mD_succ (mask bit i : Nat) : mD mask bit (i + 1) = mD mask bit i ^^^ (if mask.testBit i then 1 <<< (bit + i) else 0) := by
  unfold mD
  rw [mod_succ, Nat.shiftLeft_xor_distrib]
  congr 1
  split
  · rw [← Nat.shiftLeft_add, Nat.add_comm]
  · rw [Nat.zero_shiftLeft]
theorem mD_all {mask : Nat} (h : mask < 2 ^ 32) (bit : Nat) : mD mask bit 32 = mask <<< bit := by unfold mD; rw [Nat.mod_eq_of_lt h]
/-- has a bit been turned? -/
def mF (mask bit n i : Nat) : Bool := decide (mD mask bit i % 2 ^ (8 * n) ≠ 0)
theorem mF_zero (mask bit n : Nat) : mF mask bit n 0 = false := by simp [mF, mD, Nat.mod_one]
theorem mF_t {mask bit n i : Nat} (h : mask.testBit i = true) (hb : bit + i < 8 * n) : mF mask bit n (i + 1) = true := by
  unfold mF
  rw [decide_eq_true_eq, mD_succ, if_pos h]
  intro e
  have h1 := congrArg (fun x => x.testBit (bit + i)) e
  simp only [Nat.testBit_mod_two_pow, Nat.testBit_xor, one_shl, Nat.zero_testBit] at h1
  have h2 : (mD mask bit i).testBit (bit + i) = false := by
    unfold mD
    rw [Nat.testBit_shiftLeft, show bit + i - bit = i by omega, Nat.testBit_mod_two_pow]
    simp
  rw [h2] at h1
  simp [hb] at h1
theorem mF_far {mask bit n i : Nat} (hb : 8 * n ≤ bit + i) : mF mask bit n (i + 1) = mF mask bit n i := by
  unfold mF
  rw [mD_succ]
  split
  · have e : ∀ a : Nat, (a ^^^ 1 <<< (bit + i)) % 2 ^ (8 * n) = a % 2 ^ (8 * n) := fun a => by
      rw [Nat.xor_mod_two_pow, Nat.shiftLeft_eq, Nat.one_mul, Nat.mod_eq_zero_of_dvd (Nat.pow_dvd_pow 2 hb), Nat.xor_zero]
    rw [e]
  · rw [Nat.xor_zero]
theorem mF_f {mask bit n i : Nat} (h : mask.testBit i = false) : mF mask bit n (i + 1) = mF mask bit n i := by
  unfold mF
  rw [mD_succ, h]
  simp
theorem turn_add {x r : Nat} (hx : x < 256) (hr : r < 8) (h : x.testBit r = false) : x + 2 ^ r = x ^^^ (1 <<< r) ∧ x + 2 ^ r < 256 := by
  have : ∀ r : Fin 8, ∀ x : Fin 256, x.val.testBit r.val = false → x.val + 2 ^ r.val = x.val ^^^ (1 <<< r.val) ∧ x.val + 2 ^ r.val < 256 := by decide +kernel
  exact this ⟨r, hr⟩ ⟨x, hx⟩ h
theorem turn_sub {x r : Nat} (hx : x < 256) (hr : r < 8) (h : x.testBit r = true) : x = 2 ^ r + (x ^^^ (1 <<< r)) := by
  have : ∀ r : Fin 8, ∀ x : Fin 256, x.val.testBit r.val = true → x.val = 2 ^ r.val + (x.val ^^^ (1 <<< r.val)) := by decide +kernel
  exact this ⟨r, hr⟩ ⟨x, hx⟩ h

theorem bit_rn {q : List Nat} (m n : Nat) (h : m = q.length) (hq : isN q) (hn : n < 8 * m) : DFun Try.prog 33 [.slf 1 m (q.flatMap un8), .val (.int .i64 (n : Int))] [] (.val (.int .u32 ((sr (q.getD (n / 8) 0) (n % 8) % 2 : Nat) : Int))) [] := by
  subst h
  exact bit_r q n hq hn
theorem tb_of {x i : Nat} (h : sr x i % 2 = 1) : x.testBit i = true := by
  rw [bit_of_byte] at h
  cases e : x.testBit i with
  | true => rfl
  | false => rw [e] at h; cases h
theorem tb_no {x i : Nat} (h : ¬ sr x i % 2 = 1) : x.testBit i = false := by
  rw [bit_of_byte] at h
  cases e : x.testBit i with
  | true => rw [e] at h; exact absurd rfl h
  | false => rfl
theorem p2_lt {r : Nat} (h : r < 7) : 2 ^ r < 128 := Nat.lt_of_lt_of_le (Nat.pow_lt_pow_right (by decide) h) (by decide)
theorem mD_zero (mask bit : Nat) : mD mask bit 0 = 0 := by simp [mD, Nat.mod_one]
/-- the byte of a place -/
def qx (q : List Nat) (n : Nat) : Nat := q.getD (n / 8) 0
theorem qx_at {q : List Nat} {n : Nat} (h : n / 8 < q.length) : q[n / 8] = qx q n := by
  unfold qx
  rw [List.getD_eq_getElem?_getD, List.getElem?_eq_getElem h]
  rfl
theorem qx_lt {q : List Nat} (h : isN q) (n : Nat) : qx q n < 256 := by
  unfold qx
  by_cases e : n / 8 < q.length
  · rw [List.getD_eq_getElem?_getD, List.getElem?_eq_getElem e]
    exact h _ (List.getElem_mem e)
  · rw [List.getD_eq_getElem?_getD, List.getElem?_eq_none (by omega)]
    decide
theorem qx_sub {q : List Nat} (h : isN q) {n : Nat} (ht : (qx q n).testBit (n % 8) = true) : ((qx q n : Nat) : Int) - ((2 ^ (n % 8) : Nat) : Int) = ((qx q n ^^^ (1 <<< (n % 8)) : Nat) : Int) ∧ qx q n ^^^ (1 <<< (n % 8)) < 256 := by
  have h1 := turn_sub (qx_lt h n) (Nat.mod_lt n (by decide)) ht
  have h2 := qx_lt h n
  generalize qx q n ^^^ (1 <<< (n % 8)) = y at h1 ⊢
  generalize 2 ^ (n % 8) = z at h1 ⊢
  omega
theorem qx_add {q : List Nat} (h : isN q) {n : Nat} (ht : (qx q n).testBit (n % 8) = false) : ((qx q n : Nat) : Int) + ((2 ^ (n % 8) : Nat) : Int) = ((qx q n ^^^ (1 <<< (n % 8)) : Nat) : Int) ∧ qx q n ^^^ (1 <<< (n % 8)) < 256 := by
  have h1 := turn_add (qx_lt h n) (Nat.mod_lt n (by decide)) ht
  rw [← h1.1]
  exact ⟨rfl, h1.2⟩
theorem spl_two {mask bit i : Nat} {l : List Nat} (h : mask.testBit i = true) (hb : bit + i < 8 * l.length) : spl (mD mask bit (i + 1)) l = (spl (mD mask bit i) l).set ((bit + i) / 8) (qx (spl (mD mask bit i) l) (bit + i) ^^^ (1 <<< ((bit + i) % 8))) := by
  rw [mD_succ, if_pos h, spl_xor, spl_one (by rw [spl_len]; exact hb), qx_at (by rw [spl_len]; omega)]
theorem spl_same {mask bit i : Nat} {l : List Nat} (h : mask.testBit i = false ∨ 8 * l.length ≤ bit + i) : spl (mD mask bit (i + 1)) l = spl (mD mask bit i) l ∧ mF mask bit l.length (i + 1) = mF mask bit l.length i := by
  rcases h with h | h
  · exact ⟨by rw [mD_succ, h]; simp, mF_f h⟩
  · refine ⟨?_, mF_far h⟩
    rw [mD_succ]
    split
    · rw [spl_xor, spl_far (by rw [spl_len]; exact h)]
    · rw [Nat.xor_zero]
theorem mF_all {mask : Nat} (hm : mask < 2 ^ 32) (bit n : Nat) : mF mask bit n 32 = true ↔ ¬ ∀ k, k < n → ((mask <<< bit) >>> (8 * k)) % 256 = 0 := by
  unfold mF
  rw [mD_all hm, bytes_zero, decide_eq_true_eq]

set_option maxRecDepth 4000 in
set_option maxHeartbeats 1000000 in
theorem spoilr_out (l : List Nat) (bit : Int) (mask : Nat) (hl : l.length ≤ 1000000) (h : bit < 0 ∨ 8 * (l.length : Int) ≤ bit) : DFun Try.prog 23 [.slf 1 (l).length ((l).flatMap un8), .val (.int .i64 (bit : Int)), .val (.int .u32 (mask : Int))] [] (.tup [.val (.slice none 0 0), .val (.bool false)]) [] := by
  refine dcalls_go (N := 79) 0 (by kernel_rfl) Try.func23 rfl rfl rfl (by simp only [fr0, Nat.zero_add, Nat.reduceAdd]; exact rfl) rfl fun s0 hs0 => ?_
  refine dwp_len (t := 0) rfl fun hl0 hL0 => ?_
  refine dwp_seq ?_
  refine dwp_region ?_
  refine walk_r rfl rfl rfl (op_move (.inr rfl) (ev1 rfl)) ?_
  refine walk_r rfl rfl rfl (op_move (.inr rfl) (ev1 rfl)) ?_
  refine walk_nil ?_
  refine dwp_seq ?_
  refine dwp_seq ?_
  refine dwp_region ?_
  refine walk_r rfl rfl rfl (op_move (.inl rfl) (ev1 rfl)) ?_
  refine walk_r rfl rfl rfl (op_lss rfl (ev1 rfl) (ev1 rfl)) ?_
  refine walk_r rfl rfl rfl (op_move (.inl rfl) (ev1 rfl)) ?_
  refine walk_gr (gd_f rfl rfl rfl) rfl rfl rfl (op_move (.inl rfl) (ev1 rfl)) ?_
  refine walk_gr (gd_f rfl rfl rfl) rfl rfl rfl (op_move (.inl rfl) (ev1 rfl)) ?_
  refine walk_gr (gd_f rfl rfl rfl) rfl rfl rfl (op_len rfl sl25 (ev2 rfl)) ?_
  refine walk_gr (gd_f rfl rfl rfl) rfl rfl rfl (op_mul' rfl (ev1 rfl) (ev2 rfl) (fun hp => IntWalk.i64_in _ (by first | omega | (simp at hp; omega)))) ?_
  refine walk_gr (gd_f rfl rfl rfl) rfl rfl rfl (op_geq rfl (ev2 rfl) (ev2 rfl)) ?_
  refine walk_r rfl rfl rfl (op_or rfl (ev1 rfl) (ev3 rfl id)) ?_
  refine walk_nil ?_
  refine dwp_if_t rfl (by simp; omega) ?_
  refine dwp_seq ?_
  refine dwp_region ?_
  refine walk_r rfl rfl rfl (op_move (.inr rfl) (ev1 rfl)) ?_
  refine walk_r rfl rfl rfl (op_move (.inr rfl) (ev1 rfl)) ?_
  refine walk_nil ?_
  refine dwp_ret ?_
  refine kend0 (rs2 rfl (rv_t rfl) (rv_t rfl)) rfl ?_
  rfl

set_option maxRecDepth 4000 in
set_option maxHeartbeats 1000000 in
theorem spoilr_o (l : List Nat) (bit mask : Nat) (hm : mask < 2 ^ 32) (hb : bit < 8 * l.length) (hl : l.length ≤ 1000000) (hl2 : isN l) : DFun Try.prog 23 [.slf 1 (l).length ((l).flatMap un8), .val (.int .i64 (bit : Int)), .val (.int .u32 (mask : Int))] [] (.tup [.arr 0, .val (.bool (mF mask bit l.length 32))]) [.arr 5 1 l.length (((spl (mask <<< bit) l)).flatMap un8)] := by
  refine dcalls_go (N := 79) 0 (by kernel_rfl) Try.func23 rfl rfl rfl (by simp only [fr0, Nat.zero_add, Nat.reduceAdd]; exact rfl) rfl fun s0 hs0 => ?_
  refine dwp_len (t := 0) rfl fun hl0 hL0 => ?_
  refine dwp_seq ?_
  refine dwp_region ?_
  refine walk_r rfl rfl rfl (op_move (.inr rfl) (ev1 rfl)) ?_
  refine walk_r rfl rfl rfl (op_move (.inr rfl) (ev1 rfl)) ?_
  refine walk_nil ?_
  refine dwp_seq ?_
  refine dwp_seq ?_
  refine dwp_region ?_
  refine walk_r rfl rfl rfl (op_move (.inl rfl) (ev1 rfl)) ?_
  refine walk_r rfl rfl rfl (op_lss rfl (ev1 rfl) (ev1 rfl)) ?_
  refine walk_r rfl rfl rfl (op_move (.inl rfl) (ev1 rfl)) ?_
  refine walk_gr (gd_f rfl rfl rfl) rfl rfl rfl (op_move (.inl rfl) (ev1 rfl)) ?_
  refine walk_gr (gd_f rfl rfl rfl) rfl rfl rfl (op_move (.inl rfl) (ev1 rfl)) ?_
  refine walk_gr (gd_f rfl rfl rfl) rfl rfl rfl (op_len rfl sl25 (ev2 rfl)) ?_
  refine walk_gr (gd_f rfl rfl rfl) rfl rfl rfl (op_mul' rfl (ev1 rfl) (ev2 rfl) (fun hp => IntWalk.i64_in _ (by first | omega | (simp at hp; omega)))) ?_
  refine walk_gr (gd_f rfl rfl rfl) rfl rfl rfl (op_geq rfl (ev2 rfl) (ev2 rfl)) ?_
  refine walk_r rfl rfl rfl (op_or rfl (ev1 rfl) (ev3 rfl id)) ?_
  refine walk_nil ?_
  refine dwp_if_f rfl (by simp; omega) ?_
  refine dwp_skip ?_
  refine dwp_seq ?_
  refine dwp_holes 2 (by simp only [holes, List.cons_append, List.nil_append]; exact rfl) ?_
  refine dwp_region ?_
  refine walk_w rfl rfl rfl (op_bsa (ps := []) 0 rfl sl25 zr5 rfl vn rfl (by decide) (by decide) rfl) (by simp only [upd, List.set_cons_zero, List.set_cons_succ]; exact rfl) ?_
  refine walk_r rfl rfl rfl (op_move (.inl rfl) (ev1 rfl)) ?_
  refine walk_w rfl rfl rfl (op_app (j := 1) rfl sl25 zr5 rfl (ev1 rfl) (ev1 rfl) src_slf rfl rfl (fun _ => flat_oc (fun _ => rfl) _) (fun _ => ⟨by omega, by omega⟩)) (by simp only [upd, List.set_cons_zero, List.set_cons_succ]; exact rfl) ?_
  refine walk_r rfl rfl rfl (op_move (.inr rfl) (ev1 rfl)) ?_
  refine walk_nil ?_
  refine dwp_seq ?_
  refine dwp_region ?_
  refine walk_r rfl rfl rfl (op_move (.inr rfl) (ev1 rfl)) ?_
  refine walk_nil ?_
  refine dwp_seq ?_
  refine dwp_seq ?_
  refine dwp_region ?_
  refine walk_r rfl rfl rfl (op_move (.inl rfl) (ev1 rfl)) ?_
  refine walk_nil ?_
  refine dwp_block ?_
  refine dwp_loopS ⟨hs0, rfl⟩ (α := Nat) (fun i => [(2, .val (.int .u32 ((sr mask i : Nat) : Int))), (9, .val (.bool (mF mask bit l.length i))), (25, .val (.int .i64 (i : Int)))]) [(0, _), (1, _), (8, _)] (fun i => [(1, .arr 5 1 l.length (((spl (mD mask bit i) l)).flatMap un8))]) [_, .hole] (fun i => i ≤ 32) (fun i => 32 - i) 0 [0, 1] (by simp) rfl ⟨rfl, rfl, rfl, trivial⟩ ⟨rfl, by rw [mF_zero]; rfl, rfl, trivial⟩ ⟨rfl, by rw [mD_zero, spl_zero]; simp [vwB], trivial⟩ ?_
  intro i hx_
  simp only [upd, List.set_cons_zero, List.set_cons_succ, List.cons_append, List.nil_append]
  have hi := hx_
  have hsm := sr_lt hm i
  have hqn := spl_lt (D := mD mask bit i) hl2
  have hql := spl_len (mD mask bit i) l
  have hbi : ((bit : Int) + (i : Int)) = ((bit + i : Nat) : Int) := rfl
  refine dwp_seq ?_
  refine dwp_region ?_
  refine walk_r rfl rfl rfl (op_lss rfl (ev1 rfl) (ev1 rfl)) ?_
  refine walk_nil ?_
  refine dwp_seq ?_
  refine dwp_cond rfl (fun c2 => ?_) (fun c2 => ?_)
  · try simp only [decide_eq_true_eq, decide_eq_false_iff_not, beq_iff_eq, bne_iff_ne, beq_eq_false_iff_ne, bne_eq_false_iff_eq, Bool.not_eq_true', Bool.not_eq_false', Bool.and_eq_true, Bool.or_eq_true, Bool.or_eq_false_iff, ne_eq, Decidable.not_not, Int.not_lt, Int.not_le] at c2
    refine dwp_skip ?_
    refine dwp_seq ?_
    refine dwp_block ?_
    refine dwp_seq ?_
    refine dwp_region ?_
    refine walk_r rfl rfl rfl (op_move (.inl rfl) (ev1 rfl)) ?_
    refine walk_r rfl rfl rfl (op_move (.inr rfl) (ev1 rfl)) ?_
    refine walk_nil ?_
    refine dwp_seq ?_
    refine dwp_region ?_
    refine walk_r rfl rfl rfl (op_move (.inl rfl) (ev1 rfl)) ?_
    refine walk_r rfl rfl rfl (op_move (.inl rfl) (ev1 rfl)) ?_
    refine walk_r rfl rfl rfl (op_add' rfl (ev1 rfl) (ev1 rfl) (fun _ => IntWalk.i64_in _ (by omega))) ?_
    refine walk_r rfl rfl rfl (op_move (.inr rfl) (ev1 rfl)) ?_
    refine walk_nil ?_
    refine dwp_seq ?_
    refine dwp_seq ?_
    rw [hbi]
    refine dwp_region ?_
    refine walk_r rfl rfl rfl (op_move (.inl rfl) (ev1 rfl)) ?_
    refine walk_r rfl rfl rfl (op_rem' rfl (ev1 rfl) (ev1 rfl) (fun _ => ⟨by omega, by omega⟩)) ?_
    refine walk_r rfl rfl rfl (op_eql rfl (ev1 rfl) (ev1 rfl)) ?_
    refine walk_r rfl rfl rfl (op_move (.inl rfl) (ev1 rfl)) ?_
    refine walk_gr (gd_t rfl rfl rfl) rfl rfl rfl (op_move (.inl rfl) (ev1 rfl)) ?_
    refine walk_gr (gd_t rfl rfl rfl) rfl rfl rfl (op_move (.inl rfl) (ev1 rfl)) ?_
    refine walk_gr (gd_t rfl rfl rfl) rfl rfl rfl (op_len rfl sl25 (ev2 rfl)) ?_
    refine walk_gr (gd_t rfl rfl rfl) rfl rfl rfl (op_mul' rfl (ev1 rfl) (ev2 rfl) (fun hp => IntWalk.i64_in _ (by first | omega | (simp at hp; omega)))) ?_
    refine walk_gr (gd_t rfl rfl rfl) rfl rfl rfl (op_lss rfl (ev2 rfl) (ev2 rfl)) ?_
    refine walk_r rfl rfl rfl (op_and rfl (ev1 rfl) (ev3 rfl id)) ?_
    refine walk_nil ?_
    refine dwp_cond rfl (fun hc => ?_) (fun hc => ?_)
    · rw [Bool.and_eq_true] at hc
      have hc1 : mask.testBit i = true := tb_of (by have := hc.1; simp at this; omega)
      have hc2 : bit + i < 8 * l.length := by have := of_decide_eq_true hc.2; omega
      refine dwp_seq ?_
      refine dwp_region ?_
      refine walk_r rfl rfl rfl (op_move (.inr rfl) (ev1 rfl)) ?_
      refine walk_nil ?_
      refine dwp_seq ?_
      refine dwp_seq ?_
      refine dwp_region ?_
      refine walk_r rfl rfl rfl (op_move (.inl rfl) (ev1 rfl)) ?_
      refine walk_r rfl rfl rfl (op_rem' rfl (ev1 rfl) (ev1 rfl) (fun _ => ⟨by omega, by omega⟩)) ?_
      refine walk_r rfl rfl rfl (op_move (.inl rfl) (ev1 rfl)) ?_
      refine walk_nil ?_
      refine dwp_block ?_
      refine dwp_loopS ⟨hs0, rfl⟩ (α := Nat) (fun r => [(12, .val (.int .u8 ((2 ^ r : Nat) : Int))), (43, .val (.int .i64 (r : Int)))]) [(0, _), (1, _), (2, _), (8, _), (11, _), (25, _), (42, _)] (fun r => []) [_, _] (fun r => r ≤ (bit + i) % 8) (fun r => 8 - r) 0 [0, 1] (by simp) rfl ⟨rfl, rfl, rfl, rfl, rfl, rfl, rfl, trivial⟩ ⟨rfl, rfl, trivial⟩ ⟨rfl, rfl, trivial⟩ ?_
      intro r hx_
      simp only [upd, List.set_cons_zero, List.set_cons_succ, List.cons_append, List.nil_append]
      have hr := hx_
      refine dwp_seq ?_
      refine dwp_region ?_
      refine walk_r rfl rfl rfl (op_lss rfl (ev1 rfl) (ev1 rfl)) ?_
      refine walk_nil ?_
      refine dwp_seq ?_
      refine dwp_cond rfl (fun c4 => ?_) (fun c4 => ?_)
      · try simp only [decide_eq_true_eq, decide_eq_false_iff_not, beq_iff_eq, bne_iff_ne, beq_eq_false_iff_ne, bne_eq_false_iff_eq, Bool.not_eq_true', Bool.not_eq_false', Bool.and_eq_true, Bool.or_eq_true, Bool.or_eq_false_iff, ne_eq, Decidable.not_not, Int.not_lt, Int.not_le] at c4
        refine dwp_skip ?_
        refine dwp_seq ?_
        refine dwp_block ?_
        refine dwp_region ?_
        refine walk_r rfl rfl rfl (op_move (.inl rfl) (ev1 rfl)) ?_
        refine walk_r rfl rfl rfl (op_mul' rfl (ev1 rfl) (ev1 rfl) (fun _ => IntWalk.u8_in _ (by have h1 := p2_lt (show r < 7 by omega); generalize 2 ^ r = z at h1 ⊢; omega))) ?_
        refine walk_r rfl rfl rfl (op_move (.inr rfl) (ev1 rfl)) ?_
        refine walk_nil ?_
        refine dwp_region ?_
        refine walk_r rfl rfl rfl (op_add' rfl (ev1 rfl) (ev1 rfl) (fun _ => IntWalk.i64_in _ (by omega))) ?_
        refine walk_r rfl rfl rfl (op_move (.inl rfl) (ev1 rfl)) ?_
        refine walk_nil ?_
        refine ⟨r + 1, [0, 1], by omega, by simp only []; omega, rfl, ⟨congrArg (fun z => some (D.val (Value.int .u8 z))) (by rw [Nat.pow_succ]; omega), rfl, rfl, rfl, rfl, rfl, rfl, rfl, rfl, trivial⟩, ⟨rfl, rfl, trivial⟩⟩
      · try simp only [decide_eq_true_eq, decide_eq_false_iff_not, beq_iff_eq, bne_iff_ne, beq_eq_false_iff_ne, bne_eq_false_iff_eq, Bool.not_eq_true', Bool.not_eq_false', Bool.and_eq_true, Bool.or_eq_true, Bool.or_eq_false_iff, ne_eq, Decidable.not_not, Int.not_lt, Int.not_le] at c4
        refine dwp_exit ?_
        refine dwp_seq ?_
        refine dwp_seq ?_
        obtain rfl : r = (bit + i) % 8 := by omega
        refine dwp_region ?_
        refine walk_r rfl rfl rfl (op_move (.inl rfl) (ev1 rfl)) ?_
        refine walk_r rfl rfl rfl (op_move (.inl rfl) (ev1 rfl)) ?_
        refine walk_r rfl rfl rfl (dop_call [] [1] [] rfl (ev1 rfl) (ec (ev1 rfl) (ec (ev1 rfl) en)) rfl rfl (bit_rn l.length (bit + i) hql.symm hqn hc2) rfl rfl rfl rfl rfl rfl) ?_
        refine walk_r rfl rfl rfl (op_eql rfl (ev1 rfl) (ev1 rfl)) ?_
        refine walk_nil ?_
        refine dwp_cond rfl (fun hd => ?_) (fun hd => ?_)
        · have hpl : (bit + i) / 8 < (spl (mD mask bit i) l).length := by omega
          have hqe := qx_at (n := bit + i) hpl
          have hqlt := qx_lt hqn (bit + i)
          have hsb := qx_sub hqn (n := bit + i) (tb_of (by have := beq_iff_eq.1 hd; unfold qx; omega))
          refine dwp_region ?_
          refine walk_r rfl rfl rfl (op_move (.inl rfl) (ev1 rfl)) ?_
          refine walk_r rfl rfl rfl (op_move (.inl rfl) (ev1 rfl)) ?_
          refine walk_r rfl rfl rfl (op_quo' rfl (ev1 rfl) (ev1 rfl) (fun _ => ⟨by omega, by omega, IntWalk.i64_in _ (by omega)⟩)) ?_
          refine walk_r rfl rfl rfl (op_move (.inl rfl) (ev1 rfl)) ?_
          refine walk_r rfl rfl rfl (op_move (.inl rfl) (ev1 rfl)) ?_
          refine walk_r rfl rfl rfl (op_quo' rfl (ev1 rfl) (ev1 rfl) (fun _ => ⟨by omega, by omega, IntWalk.i64_in _ (by omega)⟩)) ?_
          refine walk_r rfl rfl rfl (op_ixar (j := ((bit + i) / 8)) rfl sl25 (ev1 rfl) (ev1 rfl) rfl (fun _ => by first | rfl | omega) (fun _ => by omega)) ?_
          refine walk_r rfl rfl rfl (op_lda1 rfl tb5 (ev1 rfl) rfl (fun _ => rfl) (by omega) rfl) ?_
          refine walk_r rfl rfl rfl (op_move (.inl rfl) (ev1 rfl)) ?_
          refine walk_r rfl rfl rfl ((by rw [← hsb.1, ← hqe]; exact op_sub' rfl (ev1 rfl) (ev1 rfl) (fun _ => IntWalk.u8_in _ (by rw [hqe, hsb.1]; omega)) : DOp _ _ _ _ _ _ (.val (.int .u8 (((qx (spl (mD mask bit i) l) (bit + i) ^^^ (1 <<< ((bit + i) % 8))) : Nat) : Int))) _)) ?_
          refine walk_r rfl rfl rfl (op_ixar (j := ((bit + i) / 8)) rfl sl25 (ev1 rfl) (ev1 rfl) rfl (fun _ => by first | rfl | omega) (fun _ => by omega)) ?_
          refine walk_s rfl rfl (op_staf (l := (spl (mD mask bit i) l)) (en := un8) (j := ((bit + i) / 8)) (c := 0) (0) ((qx (spl (mD mask bit i) l) (bit + i) ^^^ (1 <<< ((bit + i) % 8)))) rfl tb5 (ev1 rfl) (ev1 rfl) rfl rfl rfl rfl (fun _ => rfl) (fun _ => by omega) (Nat.le_of_ble_eq_true rfl) rfl) (by simp only [upd, List.set_cons_zero, List.set_cons_succ]; exact rfl) ?_
          refine walk_nil ?_
          refine dwp_region ?_
          refine walk_r rfl rfl rfl (op_move (.inr rfl) (ev1 rfl)) ?_
          refine walk_nil ?_
          refine dwp_region ?_
          refine walk_r rfl rfl rfl (op_move (.inl rfl) (ev1 rfl)) ?_
          refine walk_r rfl rfl rfl (op_quo' rfl (ev1 rfl) (ev1 rfl) (fun _ => ⟨by omega, by omega, IntWalk.u32_in _ (by omega)⟩)) ?_
          refine walk_r rfl rfl rfl (op_move (.inr rfl) (ev1 rfl)) ?_
          refine walk_nil ?_
          refine dwp_region ?_
          refine walk_r rfl rfl rfl (op_add' rfl (ev1 rfl) (ev1 rfl) (fun _ => IntWalk.i64_in _ (by omega))) ?_
          refine walk_r rfl rfl rfl (op_move (.inl rfl) (ev1 rfl)) ?_
          refine walk_nil ?_
          refine ⟨i + 1, [0, 1], by omega, by simp only []; omega, rfl, ⟨congrArg (fun z => some (D.val (Value.int .u32 z))) (shr_succ mask i), by rw [mF_t hc1 hc2]; rfl, rfl, rfl, rfl, rfl, trivial⟩, ⟨rfl, by rw [spl_two hc1 hc2]; rfl, trivial⟩⟩
        · have hpl : (bit + i) / 8 < (spl (mD mask bit i) l).length := by omega
          have hqe := qx_at (n := bit + i) hpl
          have hqlt := qx_lt hqn (bit + i)
          have hsb := qx_add hqn (n := bit + i) (tb_no (by have := beq_eq_false_iff_ne.1 hd; unfold qx; omega))
          refine dwp_region ?_
          refine walk_r rfl rfl rfl (op_move (.inl rfl) (ev1 rfl)) ?_
          refine walk_r rfl rfl rfl (op_move (.inl rfl) (ev1 rfl)) ?_
          refine walk_r rfl rfl rfl (op_quo' rfl (ev1 rfl) (ev1 rfl) (fun _ => ⟨by omega, by omega, IntWalk.i64_in _ (by omega)⟩)) ?_
          refine walk_r rfl rfl rfl (op_move (.inl rfl) (ev1 rfl)) ?_
          refine walk_r rfl rfl rfl (op_move (.inl rfl) (ev1 rfl)) ?_
          refine walk_r rfl rfl rfl (op_quo' rfl (ev1 rfl) (ev1 rfl) (fun _ => ⟨by omega, by omega, IntWalk.i64_in _ (by omega)⟩)) ?_
          refine walk_r rfl rfl rfl (op_ixar (j := ((bit + i) / 8)) rfl sl25 (ev1 rfl) (ev1 rfl) rfl (fun _ => by first | rfl | omega) (fun _ => by omega)) ?_
          refine walk_r rfl rfl rfl (op_lda1 rfl tb5 (ev1 rfl) rfl (fun _ => rfl) (by omega) rfl) ?_
          refine walk_r rfl rfl rfl (op_move (.inl rfl) (ev1 rfl)) ?_
          refine walk_r rfl rfl rfl ((by rw [← hsb.1, ← hqe]; exact op_add' rfl (ev1 rfl) (ev1 rfl) (fun _ => IntWalk.u8_in _ (by rw [hqe, hsb.1]; omega)) : DOp _ _ _ _ _ _ (.val (.int .u8 (((qx (spl (mD mask bit i) l) (bit + i) ^^^ (1 <<< ((bit + i) % 8))) : Nat) : Int))) _)) ?_
          refine walk_r rfl rfl rfl (op_ixar (j := ((bit + i) / 8)) rfl sl25 (ev1 rfl) (ev1 rfl) rfl (fun _ => by first | rfl | omega) (fun _ => by omega)) ?_
          refine walk_s rfl rfl (op_staf (l := (spl (mD mask bit i) l)) (en := un8) (j := ((bit + i) / 8)) (c := 0) (0) ((qx (spl (mD mask bit i) l) (bit + i) ^^^ (1 <<< ((bit + i) % 8)))) rfl tb5 (ev1 rfl) (ev1 rfl) rfl rfl rfl rfl (fun _ => rfl) (fun _ => by omega) (Nat.le_of_ble_eq_true rfl) rfl) (by simp only [upd, List.set_cons_zero, List.set_cons_succ]; exact rfl) ?_
          refine walk_nil ?_
          refine dwp_region ?_
          refine walk_r rfl rfl rfl (op_move (.inr rfl) (ev1 rfl)) ?_
          refine walk_nil ?_
          refine dwp_region ?_
          refine walk_r rfl rfl rfl (op_move (.inl rfl) (ev1 rfl)) ?_
          refine walk_r rfl rfl rfl (op_quo' rfl (ev1 rfl) (ev1 rfl) (fun _ => ⟨by omega, by omega, IntWalk.u32_in _ (by omega)⟩)) ?_
          refine walk_r rfl rfl rfl (op_move (.inr rfl) (ev1 rfl)) ?_
          refine walk_nil ?_
          refine dwp_region ?_
          refine walk_r rfl rfl rfl (op_add' rfl (ev1 rfl) (ev1 rfl) (fun _ => IntWalk.i64_in _ (by omega))) ?_
          refine walk_r rfl rfl rfl (op_move (.inl rfl) (ev1 rfl)) ?_
          refine walk_nil ?_
          refine ⟨i + 1, [0, 1], by omega, by simp only []; omega, rfl, ⟨congrArg (fun z => some (D.val (Value.int .u32 z))) (shr_succ mask i), by rw [mF_t hc1 hc2]; rfl, rfl, rfl, rfl, rfl, trivial⟩, ⟨rfl, by rw [spl_two hc1 hc2]; rfl, trivial⟩⟩
    · have hc3 : mask.testBit i = false ∨ 8 * l.length ≤ bit + i := by
        rw [Bool.and_eq_false_iff] at hc
        rcases hc with hc | hc
        · exact .inl (tb_no (by simp at hc; omega))
        · exact .inr (by have := of_decide_eq_false hc; omega)
      have hc4 := spl_same hc3
      refine dwp_skip ?_
      refine dwp_region ?_
      refine walk_r rfl rfl rfl (op_move (.inl rfl) (ev1 rfl)) ?_
      refine walk_r rfl rfl rfl (op_quo' rfl (ev1 rfl) (ev1 rfl) (fun _ => ⟨by omega, by omega, IntWalk.u32_in _ (by omega)⟩)) ?_
      refine walk_r rfl rfl rfl (op_move (.inr rfl) (ev1 rfl)) ?_
      refine walk_nil ?_
      refine dwp_region ?_
      refine walk_r rfl rfl rfl (op_add' rfl (ev1 rfl) (ev1 rfl) (fun _ => IntWalk.i64_in _ (by omega))) ?_
      refine walk_r rfl rfl rfl (op_move (.inl rfl) (ev1 rfl)) ?_
      refine walk_nil ?_
      refine ⟨i + 1, [0, 1], by omega, by simp only []; omega, rfl, ⟨congrArg (fun z => some (D.val (Value.int .u32 z))) (shr_succ mask i), by rw [hc4.2]; rfl, rfl, rfl, rfl, rfl, trivial⟩, ⟨rfl, by rw [hc4.1]; rfl, trivial⟩⟩
  · try simp only [decide_eq_true_eq, decide_eq_false_iff_not, beq_iff_eq, bne_iff_ne, beq_eq_false_iff_ne, bne_eq_false_iff_eq, Bool.not_eq_true', Bool.not_eq_false', Bool.and_eq_true, Bool.or_eq_true, Bool.or_eq_false_iff, ne_eq, Decidable.not_not, Int.not_lt, Int.not_le] at c2
    refine dwp_exit ?_
    refine dwp_seq ?_
    obtain rfl : i = 32 := by omega
    rw [mD_all hm]
    refine dwp_region ?_
    refine walk_r rfl rfl rfl (op_move (.inl rfl) (ev1 rfl)) ?_
    refine walk_r rfl rfl rfl (op_move (.inl rfl) (ev1 rfl)) ?_
    refine walk_r rfl rfl rfl (op_move (.inr rfl) (ev1 rfl)) ?_
    refine walk_r rfl rfl rfl (op_move (.inr rfl) (ev1 rfl)) ?_
    refine walk_nil ?_
    refine dwp_ret ?_
    refine kend [1] (rs2 rfl (rv_t rfl) (rv_t rfl)) rfl rfl ?_ ⟨rfl, trivial⟩
    rfl

end Go.Proofs.Ytnpfbeoibbejeaa
