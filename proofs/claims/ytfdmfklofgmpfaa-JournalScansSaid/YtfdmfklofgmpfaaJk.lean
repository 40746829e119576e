/- does the layer do anything? -/
import Derived.Test.YtfdmfklofgmpfaaJg
namespace Go.Proofs.Ytfdmfklofgmpfaa
set_option linter.unusedVariables false
set_option linter.unusedSimpArgs false
open Go.RowKit

abbrev wkR : List (List Nat) := [[5], [6, 7]]
theorem wkR_n : ∀ r ∈ wkR, isN r := by unfold isN; decide
theorem wkR_l : ∀ r ∈ wkR, r.length ≤ 65536 := by decide
theorem wkJ_n : isN (joinJ wkR) := joinJ_n wkR_n
theorem wkJ_l : (joinJ wkR).length = 19 := by rw [joinJ_len]; rfl
theorem wk_take : recs ((joinJ wkR).take 18) = [[5]] ∧ offJ (recs ((joinJ wkR).take 18)) = 9 := by
  have h := torn (rows := wkR) (c := 18) wkR_l (by rw [wkJ_l]; decide)
  rw [h.2.1]
  exact ⟨rfl, rfl⟩
theorem scan_w : DFun Try.prog 8 [.slf 1 ((joinJ wkR).take 18).length (((joinJ wkR).take 18).flatMap un8)] [] (.tup [.slm 1 1 [rN [5]], .val (.int .i64 9)]) [] := by
  have h := scan_f ((joinJ wkR).take 18) (fun x hx => wkJ_n x (List.mem_of_mem_take hx)) (by rw [List.length_take]; omega)
  rw [wk_take.2, wk_take.1] at h
  exact h
theorem first_w1 : DFun Try.prog 17 [.slf 1 3 [.int .u8 0, .int .u8 0, .int .u8 0]] [] (.tup [.val (.slice none 0 0), .val (.int .i64 0), .val (.int .i64 110)]) [] :=
  first_no [0, 0, 0] (by unfold isN; decide) (by decide) (by decide)
theorem first_w2 : DFun Try.prog 17 [.slf 1 4 [.int .u8 0, .int .u8 1, .int .u8 0, .int .u8 1]] [] (.tup [.val (.slice none 0 0), .val (.int .i64 0), .val (.int .i64 3)]) [] := by
  have e : errJ [0, 1, 0, 1] = 3 := err_l (by decide) (by decide)
  have h := first_no [0, 1, 0, 1] (by unfold isN; decide) (by decide) (by rw [e]; decide)
  rw [e] at h
  exact h
theorem first_w3 : DFun Try.prog 17 [.slf 1 8 [.int .u8 0, .int .u8 0, .int .u8 0, .int .u8 0, .int .u8 1, .int .u8 1, .int .u8 1, .int .u8 1]] [] (.tup [.val (.slice none 0 0), .val (.int .i64 0), .val (.int .i64 120)]) [] := by
  have e : errJ [0, 0, 0, 0, 1, 1, 1, 1] = 120 := err_x (by decide) (by decide) (by decide) (of_decide_eq_false (by kernel_rfl))
  have h := first_no [0, 0, 0, 0, 1, 1, 1, 1] (by unfold isN; decide) (by decide) (by rw [e]; decide)
  rw [e] at h
  exact h
theorem why_w (n : Nat) (L : List Value) (h1 : n = (joinJ wkR ++ [0]).length) (h2 : L = (joinJ wkR ++ [0]).flatMap un8) : DFun Try.prog 15 [.slf 1 n L] [] (.tup [.val (.int .i64 19), .val (.int .i64 110)]) [] := by
  subst h1 h2
  have hl : (joinJ wkR ++ [0]).length = 20 := by rw [List.length_append, wkJ_l]; rfl
  have h := why_f (joinJ wkR ++ [0]) (fun x hx => (List.mem_append.1 hx).elim (wkJ_n x) (by intro h; simp at h; omega)) (by omega)
  have e0 : recs [0] = [] := recs_nil (by decide)
  have e1 : recs (joinJ wkR ++ [0]) = wkR := by rw [recs_app [0] wkR_l, e0, List.append_nil]
  have e2 : errJ (restJ (joinJ wkR ++ [0]) (recs (joinJ wkR ++ [0])).length) = 110 := by
    unfold restJ
    rw [List.take_length, e1, ← joinJ_len, List.drop_left]
    rfl
  rw [e2, e1, hl] at h
  exact h
theorem append_w : DFun Try.prog 23 [.slf 1 ((joinJ wkR).take 18).length (((joinJ wkR).take 18).flatMap un8), .slm 1 0 []] [] (.tup [.val (.slice none 0 0), .val (.int .i64 2)]) [] :=
  append_no ((joinJ wkR).take 18) (fun x hx => wkJ_n x (List.mem_of_mem_take hx)) (by rw [List.length_take]; omega) [] (by rw [wk_take.2, List.length_take, wkJ_l]; decide)

set_option maxRecDepth 4000 in
set_option maxHeartbeats 1000000 in
theorem wakes_d : DFun Try.prog 6 [] [] (.val (.bool true)) [] := by
  refine dcalls_go (N := 124) 0 (by kernel_rfl) Try.func6 rfl rfl rfl (by simp only [fr0, Nat.zero_add, Nat.reduceAdd]; exact rfl) rfl fun s0 hs0 => ?_
  refine dwp_seq ?_
  refine dwp_region ?_
  refine walk_r rfl rfl rfl (op_move (.inr rfl) (ev1 rfl)) ?_
  refine walk_nil ?_
  refine dwp_seq ?_
  refine dwp_region ?_
  refine walk_r rfl rfl rfl (op_bs (ps := [(0, .const (.int .u8 5)), (1, .const (.int .u8 6))]) rfl sl22 zr5 rfl (vc (ev1 rfl) (vc (ev1 rfl) vn)) rfl (by decide) (by decide)) ?_
  refine walk_r rfl rfl rfl (dop_call [] [] [] rfl (ev1 rfl) (ec (ev1 rfl) en) rfl rfl (freeze (record_o [5, 6] (by unfold isN; decide) (by decide)) rfl) rfl rfl rfl rfl rfl rfl) ?_
  refine walk_r rfl rfl rfl (op_move (.inl rfl) (ev1 rfl)) ?_
  refine walk_r rfl rfl rfl (op_ext rfl (ev1 rfl) rfl) ?_
  refine walk_r rfl rfl rfl (op_ext rfl (ev1 rfl) rfl) ?_
  refine walk_r rfl rfl rfl (op_move (.inr rfl) (ev1 rfl)) ?_
  refine walk_r rfl rfl rfl (op_move (.inr rfl) (ev1 rfl)) ?_
  refine walk_nil ?_
  refine dwp_seq ?_
  refine dwp_region ?_
  refine walk_r rfl rfl rfl (op_bs (ps := [(0, .const (.int .u8 5))]) rfl sl22 zr5 rfl (vc (ev1 rfl) vn) rfl (by decide) (by decide)) ?_
  refine walk_r rfl rfl rfl (op_bs (ps := [(0, .const (.int .u8 6)), (1, .const (.int .u8 7))]) rfl sl22 zr5 rfl (vc (ev1 rfl) (vc (ev1 rfl) vn)) rfl (by decide) (by decide)) ?_
  refine walk_r rfl rfl rfl (op_bsm (ps := [(0, .tmp 26), (1, .tmp 27)]) rfl sl25 zr22 rfl (ec (ev1 rfl) (ec (ev1 rfl) en)) rfl (by decide)) ?_
  refine walk_r rfl rfl rfl (dop_call [] [] [] rfl (ev1 rfl) (ec (ev1 rfl) en) rfl rfl (freeze (join_o wkR wkR_n (by decide) wkR_l) rfl) rfl rfl rfl rfl rfl rfl) ?_
  refine walk_r rfl rfl rfl (op_move (.inl rfl) (ev1 rfl)) ?_
  refine walk_r rfl rfl rfl (op_ext rfl (ev1 rfl) rfl) ?_
  refine walk_r rfl rfl rfl (op_ext rfl (ev1 rfl) rfl) ?_
  refine walk_r rfl rfl rfl (op_move (.inr rfl) (ev1 rfl)) ?_
  refine walk_r rfl rfl rfl (op_move (.inr rfl) (ev1 rfl)) ?_
  refine walk_nil ?_
  refine dwp_seq ?_
  refine dwp_seq ?_
  refine dwp_region ?_
  refine walk_r rfl rfl rfl (op_move (.inl rfl) (ev1 rfl)) ?_
  refine walk_r rfl rfl rfl (op_neq rfl (ev1 rfl) (ev1 rfl)) ?_
  refine walk_r rfl rfl rfl ((op_move (.inl rfl) (ev1 rfl)).cast (d' := .val (.bool false)) (by kernel_rfl)) ?_
  refine walk_gr (gd_f rfl rfl rfl) rfl rfl rfl (op_move (.inl rfl) (ev1 rfl)) ?_
  refine walk_gr (gd_f rfl rfl rfl) rfl rfl rfl (op_neq rfl (ev2 rfl) (ev1 rfl)) ?_
  refine walk_r rfl rfl rfl (op_or rfl (ev1 rfl) (ev3 rfl id)) ?_
  refine walk_r rfl rfl rfl ((op_move (.inl rfl) (ev1 rfl)).cast (d' := .val (.bool false)) (by kernel_rfl)) ?_
  refine walk_gr (gd_f rfl rfl rfl) rfl rfl rfl (op_move (.inl rfl) (ev1 rfl)) ?_
  refine walk_gr (gd_f rfl rfl rfl) rfl rfl rfl (op_len rfl sl22 (ev2 rfl)) ?_
  refine walk_gr (gd_f rfl rfl rfl) rfl rfl rfl (op_neq rfl (ev2 rfl) (ev1 rfl)) ?_
  refine walk_r rfl rfl rfl (op_or rfl (ev1 rfl) (ev3 rfl id)) ?_
  refine walk_r rfl rfl rfl ((op_move (.inl rfl) (ev1 rfl)).cast (d' := .val (.bool false)) (by kernel_rfl)) ?_
  refine walk_gr (gd_f rfl rfl rfl) rfl rfl rfl (op_move (.inl rfl) (ev1 rfl)) ?_
  refine walk_gr (gd_f rfl rfl rfl) rfl rfl rfl (op_len rfl sl22 (ev2 rfl)) ?_
  refine walk_gr (gd_f rfl rfl rfl) rfl rfl rfl (op_neq rfl (ev2 rfl) (ev1 rfl)) ?_
  refine walk_r rfl rfl rfl ((op_or rfl (ev1 rfl) (ev3 rfl id)).cast (d' := .val (.bool false)) (by kernel_rfl)) ?_
  refine walk_nil ?_
  refine dwp_if_f rfl (rfl) ?_
  refine dwp_skip ?_
  refine dwp_seq ?_
  have hwl := wkJ_l
  refine dwp_region ?_
  refine walk_r rfl rfl rfl (op_move (.inl rfl) (ev1 rfl)) ?_
  refine walk_r rfl rfl rfl (op_sltk (j := 18) rfl sl22 (ev1 rfl) (bd_some (ev1 rfl)) (fun _ => by omega) (fun _ => by omega) (fun _ => rfl)) ?_
  refine walk_r rfl rfl rfl (dop_call [] [] [] rfl (ev1 rfl) (ec (ev1 rfl) en) rfl rfl (scan_w) rfl rfl rfl rfl rfl rfl) ?_
  refine walk_r rfl rfl rfl (op_move (.inl rfl) (ev1 rfl)) ?_
  refine walk_r rfl rfl rfl (op_ext rfl (ev1 rfl) rfl) ?_
  refine walk_r rfl rfl rfl (op_ext rfl (ev1 rfl) rfl) ?_
  refine walk_r rfl rfl rfl (op_move (.inr rfl) (ev1 rfl)) ?_
  refine walk_r rfl rfl rfl (op_move (.inr rfl) (ev1 rfl)) ?_
  refine walk_nil ?_
  refine dwp_seq ?_
  refine dwp_region ?_
  refine walk_r rfl rfl rfl (op_bs (ps := [(0, .const (.int .u8 0)), (1, .const (.int .u8 0)), (2, .const (.int .u8 0))]) rfl sl22 zr5 rfl (vc (ev1 rfl) (vc (ev1 rfl) (vc (ev1 rfl) vn))) rfl (by decide) (by decide)) ?_
  refine walk_r rfl rfl rfl (dop_call [] [] [] rfl (ev1 rfl) (ec (ev1 rfl) en) rfl rfl (first_w1) rfl rfl rfl rfl rfl rfl) ?_
  refine walk_r rfl rfl rfl (op_move (.inl rfl) (ev1 rfl)) ?_
  refine walk_r rfl rfl rfl (op_ext rfl (ev1 rfl) rfl) ?_
  refine walk_r rfl rfl rfl (op_ext rfl (ev1 rfl) rfl) ?_
  refine walk_r rfl rfl rfl (op_ext rfl (ev1 rfl) rfl) ?_
  refine walk_r rfl rfl rfl (op_move (.inr rfl) (ev1 rfl)) ?_
  refine walk_r rfl rfl rfl (op_move (.inr rfl) (ev1 rfl)) ?_
  refine walk_r rfl rfl rfl (op_move (.inr rfl) (ev1 rfl)) ?_
  refine walk_nil ?_
  refine dwp_seq ?_
  refine dwp_region ?_
  refine walk_r rfl rfl rfl (op_bs (ps := [(0, .const (.int .u8 0)), (1, .const (.int .u8 1)), (2, .const (.int .u8 0)), (3, .const (.int .u8 1))]) rfl sl22 zr5 rfl (vc (ev1 rfl) (vc (ev1 rfl) (vc (ev1 rfl) (vc (ev1 rfl) vn)))) rfl (by decide) (by decide)) ?_
  refine walk_r rfl rfl rfl (dop_call [] [] [] rfl (ev1 rfl) (ec (ev1 rfl) en) rfl rfl (first_w2) rfl rfl rfl rfl rfl rfl) ?_
  refine walk_r rfl rfl rfl (op_move (.inl rfl) (ev1 rfl)) ?_
  refine walk_r rfl rfl rfl (op_ext rfl (ev1 rfl) rfl) ?_
  refine walk_r rfl rfl rfl (op_ext rfl (ev1 rfl) rfl) ?_
  refine walk_r rfl rfl rfl (op_ext rfl (ev1 rfl) rfl) ?_
  refine walk_r rfl rfl rfl (op_move (.inr rfl) (ev1 rfl)) ?_
  refine walk_r rfl rfl rfl (op_move (.inr rfl) (ev1 rfl)) ?_
  refine walk_r rfl rfl rfl (op_move (.inr rfl) (ev1 rfl)) ?_
  refine walk_nil ?_
  refine dwp_seq ?_
  refine dwp_region ?_
  refine walk_r rfl rfl rfl (op_bs (ps := [(0, .const (.int .u8 0)), (1, .const (.int .u8 0)), (2, .const (.int .u8 0)), (3, .const (.int .u8 0)), (4, .const (.int .u8 1)), (5, .const (.int .u8 1)), (6, .const (.int .u8 1)), (7, .const (.int .u8 1))]) rfl sl22 zr5 rfl (vc (ev1 rfl) (vc (ev1 rfl) (vc (ev1 rfl) (vc (ev1 rfl) (vc (ev1 rfl) (vc (ev1 rfl) (vc (ev1 rfl) (vc (ev1 rfl) vn)))))))) rfl (by decide) (by decide)) ?_
  refine walk_r rfl rfl rfl (dop_call [] [] [] rfl (ev1 rfl) (ec (ev1 rfl) en) rfl rfl (first_w3) rfl rfl rfl rfl rfl rfl) ?_
  refine walk_r rfl rfl rfl (op_move (.inl rfl) (ev1 rfl)) ?_
  refine walk_r rfl rfl rfl (op_ext rfl (ev1 rfl) rfl) ?_
  refine walk_r rfl rfl rfl (op_ext rfl (ev1 rfl) rfl) ?_
  refine walk_r rfl rfl rfl (op_ext rfl (ev1 rfl) rfl) ?_
  refine walk_r rfl rfl rfl (op_move (.inr rfl) (ev1 rfl)) ?_
  refine walk_r rfl rfl rfl (op_move (.inr rfl) (ev1 rfl)) ?_
  refine walk_r rfl rfl rfl (op_move (.inr rfl) (ev1 rfl)) ?_
  refine walk_nil ?_
  refine dwp_seq ?_
  refine dwp_holes 2 (by simp only [holes, List.cons_append, List.nil_append]; exact rfl) ?_
  refine dwp_region ?_
  refine walk_r rfl rfl rfl (op_move (.inl rfl) (ev1 rfl)) ?_
  refine walk_w rfl rfl rfl (dop_call [] [] [0] rfl (ev1 rfl) (ec (ev1 rfl) en) rfl rfl (cloneN (joinJ wkR) (by omega)) rfl rfl rfl rfl rfl rfl) (by simp only [upd, List.set_cons_zero, List.set_cons_succ]; exact rfl) ?_
  refine walk_r rfl rfl rfl (op_bs (ps := [(0, .const (.int .u8 0))]) rfl sl22 zr5 rfl (vc (ev1 rfl) vn) rfl (by decide) (by decide)) ?_
  refine walk_w rfl rfl rfl (op_app (j := 1) rfl sl22 zr5 rfl (ev1 rfl) (ev1 rfl) src_slf rfl rfl (fun _ => rfl) (fun _ => ⟨by omega, by omega⟩)) (by simp only [upd, List.set_cons_zero, List.set_cons_succ]; exact rfl) ?_
  refine walk_r rfl rfl rfl (dop_call [] [1] [] rfl (ev1 rfl) (ec (ev1 rfl) en) rfl rfl (why_w _ _ (by rw [List.length_append]; rfl) (by rw [List.flatMap_append]; rfl)) rfl rfl rfl rfl rfl rfl) ?_
  refine walk_r rfl rfl rfl (op_move (.inl rfl) (ev1 rfl)) ?_
  refine walk_r rfl rfl rfl (op_ext rfl (ev1 rfl) rfl) ?_
  refine walk_r rfl rfl rfl (op_ext rfl (ev1 rfl) rfl) ?_
  refine walk_r rfl rfl rfl (op_move (.inr rfl) (ev1 rfl)) ?_
  refine walk_r rfl rfl rfl (op_move (.inr rfl) (ev1 rfl)) ?_
  refine walk_nil ?_
  refine dwp_seq ?_
  refine dwp_region ?_
  refine walk_r rfl rfl rfl (op_move (.inl rfl) (ev1 rfl)) ?_
  refine walk_r rfl rfl rfl (op_sltk (j := 18) rfl sl22 (ev1 rfl) (bd_some (ev1 rfl)) (fun _ => by omega) (fun _ => by omega) (fun _ => rfl)) ?_
  refine walk_r rfl rfl rfl (dop_call [] [] [] rfl (ev1 rfl) (ec (ev1 rfl) (ec (evnilm (ev1 rfl)) en)) rfl rfl (append_w) rfl rfl rfl rfl rfl rfl) ?_
  refine walk_r rfl rfl rfl (op_move (.inl rfl) (ev1 rfl)) ?_
  refine walk_r rfl rfl rfl (op_ext rfl (ev1 rfl) rfl) ?_
  refine walk_r rfl rfl rfl (op_ext rfl (ev1 rfl) rfl) ?_
  refine walk_r rfl rfl rfl (op_move (.inr rfl) (ev1 rfl)) ?_
  refine walk_r rfl rfl rfl (op_move (.inr rfl) (ev1 rfl)) ?_
  refine walk_nil ?_
  refine dwp_seq ?_
  refine dwp_region ?_
  refine walk_r rfl rfl rfl (op_move (.inl rfl) (ev1 rfl)) ?_
  refine walk_r rfl rfl rfl (op_lenm rfl sl25 (ev1 rfl)) ?_
  refine walk_r rfl rfl rfl (op_eql rfl (ev1 rfl) (ev1 rfl)) ?_
  refine walk_r rfl rfl rfl ((op_move (.inl rfl) (ev1 rfl)).cast (d' := .val (.bool true)) (by kernel_rfl)) ?_
  refine walk_gr (gd_t rfl rfl rfl) rfl rfl rfl (op_move (.inl rfl) (ev1 rfl)) ?_
  refine walk_gr (gd_t rfl rfl rfl) rfl rfl rfl (op_ixm (0) rfl sl25 (ev2 rfl) (ev1 rfl) (fun _ => rfl) rfl) ?_
  refine walk_gr (gd_t rfl rfl rfl) rfl rfl rfl (op_lddm rfl tb22 (ev2 rfl) rfl) ?_
  refine walk_gr (gd_t rfl rfl rfl) rfl rfl rfl (op_bs (ps := [(0, .const (.int .u8 5))]) rfl sl22 zr5 rfl (vc (ev1 rfl) vn) rfl (by decide) (by decide)) ?_
  refine walk_gr (gd_t rfl rfl rfl) rfl rfl rfl (dop_call [] [] [] rfl (ev1 rfl) (ec (ev2 rfl) (ec (ev2 rfl) en)) rfl rfl (equalN [5] [5]) rfl rfl rfl rfl rfl rfl) ?_
  refine walk_r rfl rfl rfl (op_and rfl (ev1 rfl) (ev3 rfl id)) ?_
  refine walk_r rfl rfl rfl ((op_move (.inl rfl) (ev1 rfl)).cast (d' := .val (.bool true)) (by kernel_rfl)) ?_
  refine walk_gr (gd_t rfl rfl rfl) rfl rfl rfl (op_move (.inl rfl) (ev1 rfl)) ?_
  refine walk_gr (gd_t rfl rfl rfl) rfl rfl rfl (op_eql rfl (ev2 rfl) (ev1 rfl)) ?_
  refine walk_r rfl rfl rfl (op_and rfl (ev1 rfl) (ev3 rfl id)) ?_
  refine walk_r rfl rfl rfl ((op_move (.inl rfl) (ev1 rfl)).cast (d' := .val (.bool true)) (by kernel_rfl)) ?_
  refine walk_gr (gd_t rfl rfl rfl) rfl rfl rfl (op_move (.inl rfl) (ev1 rfl)) ?_
  refine walk_gr (gd_t rfl rfl rfl) rfl rfl rfl (op_eql rfl (ev2 rfl) (ev1 rfl)) ?_
  refine walk_r rfl rfl rfl (op_and rfl (ev1 rfl) (ev3 rfl id)) ?_
  refine walk_r rfl rfl rfl ((op_move (.inl rfl) (ev1 rfl)).cast (d' := .val (.bool true)) (by kernel_rfl)) ?_
  refine walk_gr (gd_t rfl rfl rfl) rfl rfl rfl (op_move (.inl rfl) (ev1 rfl)) ?_
  refine walk_gr (gd_t rfl rfl rfl) rfl rfl rfl (op_eql rfl (ev2 rfl) (ev1 rfl)) ?_
  refine walk_r rfl rfl rfl (op_and rfl (ev1 rfl) (ev3 rfl id)) ?_
  refine walk_r rfl rfl rfl ((op_move (.inl rfl) (ev1 rfl)).cast (d' := .val (.bool true)) (by kernel_rfl)) ?_
  refine walk_gr (gd_t rfl rfl rfl) rfl rfl rfl (op_move (.inl rfl) (ev1 rfl)) ?_
  refine walk_gr (gd_t rfl rfl rfl) rfl rfl rfl (op_eql rfl (ev2 rfl) (ev1 rfl)) ?_
  refine walk_r rfl rfl rfl (op_and rfl (ev1 rfl) (ev3 rfl id)) ?_
  refine walk_r rfl rfl rfl ((op_move (.inl rfl) (ev1 rfl)).cast (d' := .val (.bool true)) (by kernel_rfl)) ?_
  refine walk_gr (gd_t rfl rfl rfl) rfl rfl rfl (op_move (.inl rfl) (ev1 rfl)) ?_
  refine walk_gr (gd_t rfl rfl rfl) rfl rfl rfl (op_eql rfl (ev2 rfl) (ev1 rfl)) ?_
  refine walk_r rfl rfl rfl (op_and rfl (ev1 rfl) (ev3 rfl id)) ?_
  refine walk_r rfl rfl rfl ((op_move (.inl rfl) (ev1 rfl)).cast (d' := .val (.bool true)) (by kernel_rfl)) ?_
  refine walk_gr (gd_t rfl rfl rfl) rfl rfl rfl (op_move (.inl rfl) (ev1 rfl)) ?_
  refine walk_gr (gd_t rfl rfl rfl) rfl rfl rfl (op_eql rfl (ev2 rfl) (ev1 rfl)) ?_
  refine walk_r rfl rfl rfl (op_and rfl (ev1 rfl) (ev3 rfl id)) ?_
  refine walk_r rfl rfl rfl ((op_move (.inl rfl) (ev1 rfl)).cast (d' := .val (.bool true)) (by kernel_rfl)) ?_
  refine walk_gr (gd_t rfl rfl rfl) rfl rfl rfl (op_move (.inl rfl) (ev1 rfl)) ?_
  refine walk_gr (gd_t rfl rfl rfl) rfl rfl rfl (op_eql rfl (ev2 rfl) (ev1 rfl)) ?_
  refine walk_r rfl rfl rfl ((op_and rfl (ev1 rfl) (ev3 rfl id)).cast (d' := .val (.bool true)) (by kernel_rfl)) ?_
  refine walk_r rfl rfl rfl (op_move (.inr rfl) (ev1 rfl)) ?_
  refine walk_nil ?_
  refine dwp_ret ?_
  refine kend0 (rs1 rfl (rv_t rfl)) rfl ?_
  rfl

end Go.Proofs.Ytfdmfklofgmpfaa
