/- which operations may be, kind by kind. No condition. -/
import Derived.Test.YtmacjicebemgoaaGreatQ4
import Derived.Test.YtmacjicebemgoaaGreatRows
namespace Go.Proofs.YtmacjicebemgoaaGreat
set_option linter.unusedVariables false
set_option linter.unusedSimpArgs false
open Go.RowKit
theorem av123 : arV Tryz.prog 123 = some (8, 4) := by kernel_rfl
theorem fo115_0 : fdO Tryz.prog 115 0 = some 0 := by kernel_rfl
theorem fo122_1 : fdO Tryz.prog 122 1 = some 1 := by kernel_rfl
theorem fo122_2 : fdO Tryz.prog 122 2 = some 2 := by kernel_rfl
theorem fo47_1 : fdO Tryz.prog 47 1 = some 3 := by kernel_rfl
theorem tb118 : tyB Tryz.prog 118 = some (false, 1) := by kernel_rfl
theorem tb119 : tyB Tryz.prog 119 = some (false, 1) := by kernel_rfl
theorem tb122 : tyB Tryz.prog 122 = some (true, 4) := by kernel_rfl
theorem errOr_z (b : Bool) {n : Int} (hn : n ≠ 0) : (errOr b n = 0) = (b = true) := by
  cases b
  · simp [errOr, hn]
  · simp [errOr]
set_option maxRecDepth 4000 in
set_option maxHeartbeats 1000000 in
theorem opc_c12 (o : OpM) (pf : FuncId) (hk : o.kd = 1 ∨ o.kd = 2) (hK : DFun Tryz.prog 62 [.val (.int .i64 o.kd)] [] (.tup [.agg [iD 63, iD 15, .fn (.func 136) [] [], .fn (.func 137) [] []], .val (.bool true)]) []) : DFun Tryz.prog 29 [.agg (opD o)] [] (.val (.int .i64 (errOr (opB o) 220))) [] := by
  refine zal (N := 54) 0 (by kernel_rfl) Tryz.func29 rfl rfl rfl (by simp only [fr0, Nat.zero_add, Nat.reduceAdd]; exact rfl) rfl fun s0 hs0 => ?_
  refine zaf ?_
  refine zaj 1 (by simp only [holes, List.cons_append, List.nil_append]; exact rfl) ?_
  refine zad ?_
  refine zak rfl rfl rfl (op_boxam 0 rfl (ev1 rfl) rfl) (by simp only [upd, za, zaa]; exact rfl) ?_
  refine zab rfl rfl rfl (zac (.inr rfl) (ev1 rfl)) ?_
  refine zae ?_
  refine zaf ?_
  refine zaj 1 (by simp only [holes, List.cons_append, List.nil_append]; exact rfl) ?_
  refine zad ?_
  refine zab rfl rfl rfl (zap rfl fo47_1 (ev1 rfl)) ?_
  refine zab rfl rfl rfl (zaq rfl tb3 (ev1 rfl) rfl rfl) ?_
  refine zab rfl rfl rfl (zah [] [] [] rfl (ev1 rfl) (ec (ev1 rfl) en) rfl rfl (hK) rfl rfl rfl rfl rfl rfl) ?_
  refine zab rfl rfl rfl (zac (.inl rfl) (ev1 rfl)) ?_
  refine zab rfl rfl rfl (zar rfl (ev1 rfl) rfl) ?_
  refine zab rfl rfl rfl (zar rfl (ev1 rfl) rfl) ?_
  refine zak rfl rfl rfl (zao 1 rfl zr115 rfl) (by simp only [upd, za, zaa]; exact rfl) ?_
  refine walk_s rfl rfl (op_stam rfl tb115 (ev1 rfl) (ev1 rfl) rfl rfl rfl rfl) (by simp only [upd, za, zaa]; exact rfl) ?_
  refine zab rfl rfl rfl (zac (.inr rfl) (ev1 rfl)) ?_
  refine zae ?_
  refine zaf ?_
  refine zaf ?_
  refine zad ?_
  refine zab rfl rfl rfl (zac (.inl rfl) (ev1 rfl)) ?_
  refine zab rfl rfl rfl ((op_not rfl (ev1 rfl)).cast (d' := .val (.bool false)) (by kernel_rfl)) ?_
  refine zab rfl rfl rfl (zac (.inl rfl) (ev1 rfl)) ?_
  refine zai (gd_f (b := false) rfl rfl rfl) rfl rfl rfl (zap rfl fo47_0 (ev1 rfl)) (by simp only [upd, za, zaa]; exact rfl) ?_
  refine zai (gd_f (b := false) rfl rfl rfl) rfl rfl rfl (op_ldmv (R := [_, _, _]) rfl tb29 (ev2 rfl) rfl rfl rfl) (by simp only [upd, za, zaa]; exact rfl) ?_
  refine zai (gd_f (b := false) rfl rfl rfl) rfl rfl rfl (zah [] [] [] rfl (ev1 rfl) (ec (ev2 rfl) en) rfl rfl (idCheck_d _) rfl rfl rfl rfl rfl rfl) (by simp only [upd, za, zaa]; exact rfl) ?_
  refine zai (gd_f (b := false) rfl rfl rfl) rfl rfl rfl (op_neq rfl (ev2 rfl) (ev1 rfl)) (by simp only [upd, za, zaa]; exact rfl) ?_
  refine zab rfl rfl rfl (op_or rfl (ev1 rfl) (ev3 rfl (fun _ => rfl))) ?_
  refine zae ?_
  refine dwp_cond rfl (fun c1 => ?_) (fun c1 => ?_)
  · refine zaf ?_
    refine zad ?_
    refine zab rfl rfl rfl (zac (.inr rfl) (ev1 rfl)) ?_
    refine zae ?_
    refine zan ?_
    refine kend0 (rs1 rfl (rv_t rfl)) rfl ?_
    rcases hk with hk | hk
    all_goals
      have hb : opB o = false := by
        unfold opB
        simp_all [mostK, errz, eqI_dec, errOr_z]
        all_goals (first | (intros; omega) | (intros; simp_all; done))
      rw [hb]
      rfl
  · refine zam ?_
    refine zaf ?_
    refine zaf ?_
    refine zad ?_
    refine zab rfl rfl rfl (zah [] [] [] rfl (ev1 rfl) en rfl rfl (fields_d) rfl rfl rfl rfl rfl rfl) ?_
    refine zab rfl rfl rfl (zac (.inl rfl) (ev1 rfl)) ?_
    refine zae ?_
    refine zat ?_
    refine dwp_dloop (dloop_step ?_)
    refine zaf ?_
    refine zad ?_
    refine zab rfl rfl rfl ((op_lss rfl (ev1 rfl) (ev1 rfl)).cast (d' := .val (.bool true)) (by kernel_rfl)) ?_
    refine zae ?_
    refine zaf ?_
    refine dwp_if_t rfl (rfl) ?_
    refine zam ?_
    refine zaf ?_
    refine zat ?_
    refine zaf ?_
    refine zaj 1 (by simp only [holes, List.cons_append, List.nil_append]; exact rfl) ?_
    refine zad ?_
    refine zab rfl rfl rfl (zac (.inl rfl) (ev1 rfl)) ?_
    refine zab rfl rfl rfl (op_ixwr (0) rfl av123 (ev1 rfl) (ev1 rfl) (fun _ => rfl) (fun _ => by decide) (Nat.le_of_ble_eq_true rfl)) ?_
    refine zak rfl rfl rfl (zao 2 rfl zr122 rfl) (by simp only [upd, za, zaa]; exact rfl) ?_
    refine zab rfl rfl rfl (zac (.inr rfl) (ev1 rfl)) ?_
    refine walk_s rfl rfl (op_stam rfl tb122 (ev1 rfl) (ev1 rfl) rfl rfl rfl rfl) (by simp only [upd, za, zaa]; exact rfl) ?_
    refine zae ?_
    refine zaf ?_
    refine zad ?_
    refine zab rfl rfl rfl (zap rfl fo115_0 (ev1 rfl)) ?_
    refine zab rfl rfl rfl (zaq rfl tb3 (ev1 rfl) rfl rfl) ?_
    refine zab rfl rfl rfl (zac (.inl rfl) (ev1 rfl)) ?_
    refine zab rfl rfl rfl ((op_shr (0) rfl (ev1 rfl) (ev1 rfl) (fun _ => ⟨rfl, by decide⟩)).cast (d' := .val (.int .i64 63)) (by kernel_rfl)) ?_
    refine zab rfl rfl rfl ((op_iand rfl (ev1 rfl) (ev1 rfl)).cast (d' := .val (.int .i64 1)) (by kernel_rfl)) ?_
    refine zab rfl rfl rfl ((op_eql rfl (ev1 rfl) (ev1 rfl)).cast (d' := .val (.bool true)) (by kernel_rfl)) ?_
    refine zab rfl rfl rfl (zac (.inl rfl) (ev1 rfl)) ?_
    refine zai (gd_t (b := true) rfl rfl rfl) rfl rfl rfl (zap rfl fo122_1 (ev1 rfl)) (by simp only [upd, za, zaa]; exact rfl) ?_
    refine zai (gd_t (b := true) rfl rfl rfl) rfl rfl rfl (zaq rfl tb118 (ev2 rfl) rfl rfl) (by simp only [upd, za, zaa]; exact rfl) ?_
    refine zai (gd_t (b := true) rfl rfl rfl) rfl rfl rfl (op_ldmw rfl tb115 (ev1 rfl) rfl rfl) (by simp only [upd, za, zaa]; exact rfl) ?_
    refine zai (gd_t (b := true) rfl rfl rfl) rfl rfl rfl (zah [] [0] [] rfl (ev2 rfl) (ec (ev2 rfl) (ec (ev1 rfl) en)) rfl rfl (fit0_d _ _ _ _ _) rfl rfl rfl rfl rfl rfl) (by simp only [upd, za, zaa]; exact rfl) ?_
    refine zai (gd_t (b := true) rfl rfl rfl) rfl rfl rfl (op_not rfl (ev2 rfl)) (by simp only [upd, za, zaa]; exact rfl) ?_
    refine zab rfl rfl rfl (op_and rfl (ev1 rfl) (ev3 rfl (fun _ => rfl))) ?_
    refine zab rfl rfl rfl (zac (.inl rfl) (ev1 rfl)) ?_
    refine zag (gd_f rfl rfl rfl) rfl rfl rfl (zap rfl fo115_0 (ev1 rfl)) ?_
    refine zag (gd_f rfl rfl rfl) rfl rfl rfl (zaq rfl tb3 (ev2 rfl) rfl rfl) ?_
    refine zag (gd_f rfl rfl rfl) rfl rfl rfl (zac (.inl rfl) (ev1 rfl)) ?_
    refine zag (gd_f rfl rfl rfl) rfl rfl rfl ((op_shr (0) rfl (ev2 rfl) (ev2 rfl) (fun _ => ⟨rfl, by decide⟩)).cast (d' := .val (.int .i64 63)) (by kernel_rfl)) ?_
    refine zag (gd_f rfl rfl rfl) rfl rfl rfl ((op_iand rfl (ev2 rfl) (ev1 rfl)).cast (d' := .val (.int .i64 1)) (by kernel_rfl)) ?_
    refine zag (gd_f rfl rfl rfl) rfl rfl rfl ((op_eql rfl (ev2 rfl) (ev1 rfl)).cast (d' := .val (.bool false)) (by kernel_rfl)) ?_
    refine zag (gd_f rfl rfl rfl) rfl rfl rfl (zac (.inl rfl) (ev2 rfl)) ?_
    refine zag (gd_tt rfl rfl rfl) rfl rfl rfl (zap rfl fo122_2 (ev1 rfl)) ?_
    refine zag (gd_tt rfl rfl rfl) rfl rfl rfl (zaq rfl tb119 (ev2 rfl) rfl rfl) ?_
    refine zag (gd_tt rfl rfl rfl) rfl rfl rfl (zah [] [0] [] rfl (ev2 rfl) (ec (ev1 rfl) en) rfl rfl (blk0_d _) rfl rfl rfl rfl rfl rfl) ?_
    refine zag (gd_tt rfl rfl rfl) rfl rfl rfl (op_not rfl (ev2 rfl)) ?_
    refine zag (gd_f rfl rfl rfl) rfl rfl rfl ((op_and rfl (ev2 rfl) (ev2 rfl)).cast (d' := .val (.bool false)) (by rfl)) ?_
    refine zab rfl rfl rfl (op_or rfl (ev1 rfl) (ev3 rfl id)) ?_
    refine zae ?_
    refine dwp_cond rfl (fun c3 => ?_) (fun c3 => ?_)
    · refine zaf ?_
      refine zad ?_
      refine zab rfl rfl rfl (zac (.inr rfl) (ev1 rfl)) ?_
      refine zae ?_
      refine zan ?_
      refine kend0 (rs1 rfl (rv_t rfl)) rfl ?_
      rcases hk with hk | hk
      all_goals
        have hb : opB o = false := by
          unfold opB
          simp_all [mostK, errz, eqI_dec, errOr_z]
          all_goals (first | (intros; omega) | (intros; simp_all; done))
        rw [hb]
        rfl
    · refine zam ?_
      refine zad ?_
      refine zab rfl rfl rfl ((op_add' rfl (ev1 rfl) (ev1 rfl) (fun _ => IntWalk.i64_in _ (by omega))).cast (d' := .val (.int .i64 1)) (by kernel_rfl)) ?_
      refine zab rfl rfl rfl (zac (.inl rfl) (ev1 rfl)) ?_
      refine zae ?_
      refine dloop_step ?_
      refine zaf ?_
      refine zad ?_
      refine zab rfl rfl rfl ((op_lss rfl (ev1 rfl) (ev1 rfl)).cast (d' := .val (.bool true)) (by kernel_rfl)) ?_
      refine zae ?_
      refine zaf ?_
      refine dwp_if_t rfl (rfl) ?_
      refine zam ?_
      refine zaf ?_
      refine zat ?_
      refine zaf ?_
      refine zaj 1 (by simp only [holes, List.cons_append, List.nil_append]; exact rfl) ?_
      refine zad ?_
      refine zab rfl rfl rfl (zac (.inl rfl) (ev1 rfl)) ?_
      refine zab rfl rfl rfl (op_ixwr (1) rfl av123 (ev1 rfl) (ev1 rfl) (fun _ => rfl) (fun _ => by decide) (Nat.le_of_ble_eq_true rfl)) ?_
      refine zak rfl rfl rfl (zao 3 rfl zr122 rfl) (by simp only [upd, za, zaa]; exact rfl) ?_
      refine zab rfl rfl rfl (zac (.inr rfl) (ev1 rfl)) ?_
      refine walk_s rfl rfl (op_stam rfl tb122 (ev1 rfl) (ev1 rfl) rfl rfl rfl rfl) (by simp only [upd, za, zaa]; exact rfl) ?_
      refine zae ?_
      refine zaf ?_
      refine zad ?_
      refine zab rfl rfl rfl (zap rfl fo115_0 (ev1 rfl)) ?_
      refine zab rfl rfl rfl (zaq rfl tb3 (ev1 rfl) rfl rfl) ?_
      refine zab rfl rfl rfl (zac (.inl rfl) (ev1 rfl)) ?_
      refine zab rfl rfl rfl ((op_shr (1) rfl (ev1 rfl) (ev1 rfl) (fun _ => ⟨rfl, by decide⟩)).cast (d' := .val (.int .i64 31)) (by kernel_rfl)) ?_
      refine zab rfl rfl rfl ((op_iand rfl (ev1 rfl) (ev1 rfl)).cast (d' := .val (.int .i64 1)) (by kernel_rfl)) ?_
      refine zab rfl rfl rfl ((op_eql rfl (ev1 rfl) (ev1 rfl)).cast (d' := .val (.bool true)) (by kernel_rfl)) ?_
      refine zab rfl rfl rfl (zac (.inl rfl) (ev1 rfl)) ?_
      refine zai (gd_t (b := true) rfl rfl rfl) rfl rfl rfl (zap rfl fo122_1 (ev1 rfl)) (by simp only [upd, za, zaa]; exact rfl) ?_
      refine zai (gd_t (b := true) rfl rfl rfl) rfl rfl rfl (zaq rfl tb118 (ev2 rfl) rfl rfl) (by simp only [upd, za, zaa]; exact rfl) ?_
      refine zai (gd_t (b := true) rfl rfl rfl) rfl rfl rfl (op_ldmw rfl tb115 (ev1 rfl) rfl rfl) (by simp only [upd, za, zaa]; exact rfl) ?_
      refine zai (gd_t (b := true) rfl rfl rfl) rfl rfl rfl (zah [] [0] [] rfl (ev2 rfl) (ec (ev2 rfl) (ec (ev1 rfl) en)) rfl rfl (fit1_d _ _ _ _ _) rfl rfl rfl rfl rfl rfl) (by simp only [upd, za, zaa]; exact rfl) ?_
      refine zai (gd_t (b := true) rfl rfl rfl) rfl rfl rfl (op_not rfl (ev2 rfl)) (by simp only [upd, za, zaa]; exact rfl) ?_
      refine zab rfl rfl rfl (op_and rfl (ev1 rfl) (ev3 rfl (fun _ => rfl))) ?_
      refine zab rfl rfl rfl (zac (.inl rfl) (ev1 rfl)) ?_
      refine zag (gd_f rfl rfl rfl) rfl rfl rfl (zap rfl fo115_0 (ev1 rfl)) ?_
      refine zag (gd_f rfl rfl rfl) rfl rfl rfl (zaq rfl tb3 (ev2 rfl) rfl rfl) ?_
      refine zag (gd_f rfl rfl rfl) rfl rfl rfl (zac (.inl rfl) (ev1 rfl)) ?_
      refine zag (gd_f rfl rfl rfl) rfl rfl rfl ((op_shr (1) rfl (ev2 rfl) (ev2 rfl) (fun _ => ⟨rfl, by decide⟩)).cast (d' := .val (.int .i64 31)) (by kernel_rfl)) ?_
      refine zag (gd_f rfl rfl rfl) rfl rfl rfl ((op_iand rfl (ev2 rfl) (ev1 rfl)).cast (d' := .val (.int .i64 1)) (by kernel_rfl)) ?_
      refine zag (gd_f rfl rfl rfl) rfl rfl rfl ((op_eql rfl (ev2 rfl) (ev1 rfl)).cast (d' := .val (.bool false)) (by kernel_rfl)) ?_
      refine zag (gd_f rfl rfl rfl) rfl rfl rfl (zac (.inl rfl) (ev2 rfl)) ?_
      refine zag (gd_tt rfl rfl rfl) rfl rfl rfl (zap rfl fo122_2 (ev1 rfl)) ?_
      refine zag (gd_tt rfl rfl rfl) rfl rfl rfl (zaq rfl tb119 (ev2 rfl) rfl rfl) ?_
      refine zag (gd_tt rfl rfl rfl) rfl rfl rfl (zah [] [0] [] rfl (ev2 rfl) (ec (ev1 rfl) en) rfl rfl (blk1_d _) rfl rfl rfl rfl rfl rfl) ?_
      refine zag (gd_tt rfl rfl rfl) rfl rfl rfl (op_not rfl (ev2 rfl)) ?_
      refine zag (gd_f rfl rfl rfl) rfl rfl rfl ((op_and rfl (ev2 rfl) (ev2 rfl)).cast (d' := .val (.bool false)) (by rfl)) ?_
      refine zab rfl rfl rfl (op_or rfl (ev1 rfl) (ev3 rfl id)) ?_
      refine zae ?_
      refine dwp_cond rfl (fun c5 => ?_) (fun c5 => ?_)
      · refine zaf ?_
        refine zad ?_
        refine zab rfl rfl rfl (zac (.inr rfl) (ev1 rfl)) ?_
        refine zae ?_
        refine zan ?_
        refine kend0 (rs1 rfl (rv_t rfl)) rfl ?_
        rcases hk with hk | hk
        all_goals
          have hb : opB o = false := by
            unfold opB
            simp_all [mostK, errz, eqI_dec, errOr_z]
            all_goals (first | (intros; omega) | (intros; simp_all; done))
          rw [hb]
          rfl
      · refine zam ?_
        refine zad ?_
        refine zab rfl rfl rfl ((op_add' rfl (ev1 rfl) (ev1 rfl) (fun _ => IntWalk.i64_in _ (by omega))).cast (d' := .val (.int .i64 2)) (by kernel_rfl)) ?_
        refine zab rfl rfl rfl (zac (.inl rfl) (ev1 rfl)) ?_
        refine zae ?_
        refine dloop_step ?_
        refine zaf ?_
        refine zad ?_
        refine zab rfl rfl rfl ((op_lss rfl (ev1 rfl) (ev1 rfl)).cast (d' := .val (.bool true)) (by kernel_rfl)) ?_
        refine zae ?_
        refine zaf ?_
        refine dwp_if_t rfl (rfl) ?_
        refine zam ?_
        refine zaf ?_
        refine zat ?_
        refine zaf ?_
        refine zaj 1 (by simp only [holes, List.cons_append, List.nil_append]; exact rfl) ?_
        refine zad ?_
        refine zab rfl rfl rfl (zac (.inl rfl) (ev1 rfl)) ?_
        refine zab rfl rfl rfl (op_ixwr (2) rfl av123 (ev1 rfl) (ev1 rfl) (fun _ => rfl) (fun _ => by decide) (Nat.le_of_ble_eq_true rfl)) ?_
        refine zak rfl rfl rfl (zao 4 rfl zr122 rfl) (by simp only [upd, za, zaa]; exact rfl) ?_
        refine zab rfl rfl rfl (zac (.inr rfl) (ev1 rfl)) ?_
        refine walk_s rfl rfl (op_stam rfl tb122 (ev1 rfl) (ev1 rfl) rfl rfl rfl rfl) (by simp only [upd, za, zaa]; exact rfl) ?_
        refine zae ?_
        refine zaf ?_
        refine zad ?_
        refine zab rfl rfl rfl (zap rfl fo115_0 (ev1 rfl)) ?_
        refine zab rfl rfl rfl (zaq rfl tb3 (ev1 rfl) rfl rfl) ?_
        refine zab rfl rfl rfl (zac (.inl rfl) (ev1 rfl)) ?_
        refine zab rfl rfl rfl ((op_shr (2) rfl (ev1 rfl) (ev1 rfl) (fun _ => ⟨rfl, by decide⟩)).cast (d' := .val (.int .i64 15)) (by kernel_rfl)) ?_
        refine zab rfl rfl rfl ((op_iand rfl (ev1 rfl) (ev1 rfl)).cast (d' := .val (.int .i64 1)) (by kernel_rfl)) ?_
        refine zab rfl rfl rfl ((op_eql rfl (ev1 rfl) (ev1 rfl)).cast (d' := .val (.bool true)) (by kernel_rfl)) ?_
        refine zab rfl rfl rfl (zac (.inl rfl) (ev1 rfl)) ?_
        refine zai (gd_t (b := true) rfl rfl rfl) rfl rfl rfl (zap rfl fo122_1 (ev1 rfl)) (by simp only [upd, za, zaa]; exact rfl) ?_
        refine zai (gd_t (b := true) rfl rfl rfl) rfl rfl rfl (zaq rfl tb118 (ev2 rfl) rfl rfl) (by simp only [upd, za, zaa]; exact rfl) ?_
        refine zai (gd_t (b := true) rfl rfl rfl) rfl rfl rfl (op_ldmw rfl tb115 (ev1 rfl) rfl rfl) (by simp only [upd, za, zaa]; exact rfl) ?_
        refine zai (gd_t (b := true) rfl rfl rfl) rfl rfl rfl (zah [] [0] [] rfl (ev2 rfl) (ec (ev2 rfl) (ec (ev1 rfl) en)) rfl rfl (fit2_d _ _ _ _ _) rfl rfl rfl rfl rfl rfl) (by simp only [upd, za, zaa]; exact rfl) ?_
        refine zai (gd_t (b := true) rfl rfl rfl) rfl rfl rfl (op_not rfl (ev2 rfl)) (by simp only [upd, za, zaa]; exact rfl) ?_
        refine zab rfl rfl rfl (op_and rfl (ev1 rfl) (ev3 rfl (fun _ => rfl))) ?_
        refine zab rfl rfl rfl (zac (.inl rfl) (ev1 rfl)) ?_
        refine zag (gd_f rfl rfl rfl) rfl rfl rfl (zap rfl fo115_0 (ev1 rfl)) ?_
        refine zag (gd_f rfl rfl rfl) rfl rfl rfl (zaq rfl tb3 (ev2 rfl) rfl rfl) ?_
        refine zag (gd_f rfl rfl rfl) rfl rfl rfl (zac (.inl rfl) (ev1 rfl)) ?_
        refine zag (gd_f rfl rfl rfl) rfl rfl rfl ((op_shr (2) rfl (ev2 rfl) (ev2 rfl) (fun _ => ⟨rfl, by decide⟩)).cast (d' := .val (.int .i64 15)) (by kernel_rfl)) ?_
        refine zag (gd_f rfl rfl rfl) rfl rfl rfl ((op_iand rfl (ev2 rfl) (ev1 rfl)).cast (d' := .val (.int .i64 1)) (by kernel_rfl)) ?_
        refine zag (gd_f rfl rfl rfl) rfl rfl rfl ((op_eql rfl (ev2 rfl) (ev1 rfl)).cast (d' := .val (.bool false)) (by kernel_rfl)) ?_
        refine zag (gd_f rfl rfl rfl) rfl rfl rfl (zac (.inl rfl) (ev2 rfl)) ?_
        refine zag (gd_tt rfl rfl rfl) rfl rfl rfl (zap rfl fo122_2 (ev1 rfl)) ?_
        refine zag (gd_tt rfl rfl rfl) rfl rfl rfl (zaq rfl tb119 (ev2 rfl) rfl rfl) ?_
        refine zag (gd_tt rfl rfl rfl) rfl rfl rfl (zah [] [0] [] rfl (ev2 rfl) (ec (ev1 rfl) en) rfl rfl (blk2_d _) rfl rfl rfl rfl rfl rfl) ?_
        refine zag (gd_tt rfl rfl rfl) rfl rfl rfl (op_not rfl (ev2 rfl)) ?_
        refine zag (gd_f rfl rfl rfl) rfl rfl rfl ((op_and rfl (ev2 rfl) (ev2 rfl)).cast (d' := .val (.bool false)) (by rfl)) ?_
        refine zab rfl rfl rfl (op_or rfl (ev1 rfl) (ev3 rfl id)) ?_
        refine zae ?_
        refine dwp_cond rfl (fun c7 => ?_) (fun c7 => ?_)
        · refine zaf ?_
          refine zad ?_
          refine zab rfl rfl rfl (zac (.inr rfl) (ev1 rfl)) ?_
          refine zae ?_
          refine zan ?_
          refine kend0 (rs1 rfl (rv_t rfl)) rfl ?_
          rcases hk with hk | hk
          all_goals
            have hb : opB o = false := by
              unfold opB
              simp_all [mostK, errz, eqI_dec, errOr_z]
              all_goals (first | (intros; omega) | (intros; simp_all; done))
            rw [hb]
            rfl
        · refine zam ?_
          refine zad ?_
          refine zab rfl rfl rfl ((op_add' rfl (ev1 rfl) (ev1 rfl) (fun _ => IntWalk.i64_in _ (by omega))).cast (d' := .val (.int .i64 3)) (by kernel_rfl)) ?_
          refine zab rfl rfl rfl (zac (.inl rfl) (ev1 rfl)) ?_
          refine zae ?_
          refine dloop_step ?_
          refine zaf ?_
          refine zad ?_
          refine zab rfl rfl rfl ((op_lss rfl (ev1 rfl) (ev1 rfl)).cast (d' := .val (.bool true)) (by kernel_rfl)) ?_
          refine zae ?_
          refine zaf ?_
          refine dwp_if_t rfl (rfl) ?_
          refine zam ?_
          refine zaf ?_
          refine zat ?_
          refine zaf ?_
          refine zaj 1 (by simp only [holes, List.cons_append, List.nil_append]; exact rfl) ?_
          refine zad ?_
          refine zab rfl rfl rfl (zac (.inl rfl) (ev1 rfl)) ?_
          refine zab rfl rfl rfl (op_ixwr (3) rfl av123 (ev1 rfl) (ev1 rfl) (fun _ => rfl) (fun _ => by decide) (Nat.le_of_ble_eq_true rfl)) ?_
          refine zak rfl rfl rfl (zao 5 rfl zr122 rfl) (by simp only [upd, za, zaa]; exact rfl) ?_
          refine zab rfl rfl rfl (zac (.inr rfl) (ev1 rfl)) ?_
          refine walk_s rfl rfl (op_stam rfl tb122 (ev1 rfl) (ev1 rfl) rfl rfl rfl rfl) (by simp only [upd, za, zaa]; exact rfl) ?_
          refine zae ?_
          refine zaf ?_
          refine zad ?_
          refine zab rfl rfl rfl (zap rfl fo115_0 (ev1 rfl)) ?_
          refine zab rfl rfl rfl (zaq rfl tb3 (ev1 rfl) rfl rfl) ?_
          refine zab rfl rfl rfl (zac (.inl rfl) (ev1 rfl)) ?_
          refine zab rfl rfl rfl ((op_shr (3) rfl (ev1 rfl) (ev1 rfl) (fun _ => ⟨rfl, by decide⟩)).cast (d' := .val (.int .i64 7)) (by kernel_rfl)) ?_
          refine zab rfl rfl rfl ((op_iand rfl (ev1 rfl) (ev1 rfl)).cast (d' := .val (.int .i64 1)) (by kernel_rfl)) ?_
          refine zab rfl rfl rfl ((op_eql rfl (ev1 rfl) (ev1 rfl)).cast (d' := .val (.bool true)) (by kernel_rfl)) ?_
          refine zab rfl rfl rfl (zac (.inl rfl) (ev1 rfl)) ?_
          refine zai (gd_t (b := true) rfl rfl rfl) rfl rfl rfl (zap rfl fo122_1 (ev1 rfl)) (by simp only [upd, za, zaa]; exact rfl) ?_
          refine zai (gd_t (b := true) rfl rfl rfl) rfl rfl rfl (zaq rfl tb118 (ev2 rfl) rfl rfl) (by simp only [upd, za, zaa]; exact rfl) ?_
          refine zai (gd_t (b := true) rfl rfl rfl) rfl rfl rfl (op_ldmw rfl tb115 (ev1 rfl) rfl rfl) (by simp only [upd, za, zaa]; exact rfl) ?_
          refine zai (gd_t (b := true) rfl rfl rfl) rfl rfl rfl (zah [] [0] [] rfl (ev2 rfl) (ec (ev2 rfl) (ec (ev1 rfl) en)) rfl rfl (fit3_d _ _ _ _ _) rfl rfl rfl rfl rfl rfl) (by simp only [upd, za, zaa]; exact rfl) ?_
          refine zai (gd_t (b := true) rfl rfl rfl) rfl rfl rfl (op_not rfl (ev2 rfl)) (by simp only [upd, za, zaa]; exact rfl) ?_
          refine zab rfl rfl rfl (op_and rfl (ev1 rfl) (ev3 rfl (fun _ => rfl))) ?_
          refine zab rfl rfl rfl (zac (.inl rfl) (ev1 rfl)) ?_
          refine zag (gd_f rfl rfl rfl) rfl rfl rfl (zap rfl fo115_0 (ev1 rfl)) ?_
          refine zag (gd_f rfl rfl rfl) rfl rfl rfl (zaq rfl tb3 (ev2 rfl) rfl rfl) ?_
          refine zag (gd_f rfl rfl rfl) rfl rfl rfl (zac (.inl rfl) (ev1 rfl)) ?_
          refine zag (gd_f rfl rfl rfl) rfl rfl rfl ((op_shr (3) rfl (ev2 rfl) (ev2 rfl) (fun _ => ⟨rfl, by decide⟩)).cast (d' := .val (.int .i64 7)) (by kernel_rfl)) ?_
          refine zag (gd_f rfl rfl rfl) rfl rfl rfl ((op_iand rfl (ev2 rfl) (ev1 rfl)).cast (d' := .val (.int .i64 1)) (by kernel_rfl)) ?_
          refine zag (gd_f rfl rfl rfl) rfl rfl rfl ((op_eql rfl (ev2 rfl) (ev1 rfl)).cast (d' := .val (.bool false)) (by kernel_rfl)) ?_
          refine zag (gd_f rfl rfl rfl) rfl rfl rfl (zac (.inl rfl) (ev2 rfl)) ?_
          refine zag (gd_tt rfl rfl rfl) rfl rfl rfl (zap rfl fo122_2 (ev1 rfl)) ?_
          refine zag (gd_tt rfl rfl rfl) rfl rfl rfl (zaq rfl tb119 (ev2 rfl) rfl rfl) ?_
          refine zag (gd_tt rfl rfl rfl) rfl rfl rfl (zah [] [0] [] rfl (ev2 rfl) (ec (ev1 rfl) en) rfl rfl (blk3_d _) rfl rfl rfl rfl rfl rfl) ?_
          refine zag (gd_tt rfl rfl rfl) rfl rfl rfl (op_not rfl (ev2 rfl)) ?_
          refine zag (gd_f rfl rfl rfl) rfl rfl rfl ((op_and rfl (ev2 rfl) (ev2 rfl)).cast (d' := .val (.bool false)) (by rfl)) ?_
          refine zab rfl rfl rfl (op_or rfl (ev1 rfl) (ev3 rfl id)) ?_
          refine zae ?_
          refine dwp_cond rfl (fun c9 => ?_) (fun c9 => ?_)
          · refine zaf ?_
            refine zad ?_
            refine zab rfl rfl rfl (zac (.inr rfl) (ev1 rfl)) ?_
            refine zae ?_
            refine zan ?_
            refine kend0 (rs1 rfl (rv_t rfl)) rfl ?_
            rcases hk with hk | hk
            all_goals
              have hb : opB o = false := by
                unfold opB
                simp_all [mostK, errz, eqI_dec, errOr_z]
                all_goals (first | (intros; omega) | (intros; simp_all; done))
              rw [hb]
              rfl
          · refine zam ?_
            refine zad ?_
            refine zab rfl rfl rfl ((op_add' rfl (ev1 rfl) (ev1 rfl) (fun _ => IntWalk.i64_in _ (by omega))).cast (d' := .val (.int .i64 4)) (by kernel_rfl)) ?_
            refine zab rfl rfl rfl (zac (.inl rfl) (ev1 rfl)) ?_
            refine zae ?_
            refine dloop_step ?_
            refine zaf ?_
            refine zad ?_
            refine zab rfl rfl rfl ((op_lss rfl (ev1 rfl) (ev1 rfl)).cast (d' := .val (.bool true)) (by kernel_rfl)) ?_
            refine zae ?_
            refine zaf ?_
            refine dwp_if_t rfl (rfl) ?_
            refine zam ?_
            refine zaf ?_
            refine zat ?_
            refine zaf ?_
            refine zaj 1 (by simp only [holes, List.cons_append, List.nil_append]; exact rfl) ?_
            refine zad ?_
            refine zab rfl rfl rfl (zac (.inl rfl) (ev1 rfl)) ?_
            refine zab rfl rfl rfl (op_ixwr (4) rfl av123 (ev1 rfl) (ev1 rfl) (fun _ => rfl) (fun _ => by decide) (Nat.le_of_ble_eq_true rfl)) ?_
            refine zak rfl rfl rfl (zao 6 rfl zr122 rfl) (by simp only [upd, za, zaa]; exact rfl) ?_
            refine zab rfl rfl rfl (zac (.inr rfl) (ev1 rfl)) ?_
            refine walk_s rfl rfl (op_stam rfl tb122 (ev1 rfl) (ev1 rfl) rfl rfl rfl rfl) (by simp only [upd, za, zaa]; exact rfl) ?_
            refine zae ?_
            refine zaf ?_
            refine zad ?_
            refine zab rfl rfl rfl (zap rfl fo115_0 (ev1 rfl)) ?_
            refine zab rfl rfl rfl (zaq rfl tb3 (ev1 rfl) rfl rfl) ?_
            refine zab rfl rfl rfl (zac (.inl rfl) (ev1 rfl)) ?_
            refine zab rfl rfl rfl ((op_shr (4) rfl (ev1 rfl) (ev1 rfl) (fun _ => ⟨rfl, by decide⟩)).cast (d' := .val (.int .i64 3)) (by kernel_rfl)) ?_
            refine zab rfl rfl rfl ((op_iand rfl (ev1 rfl) (ev1 rfl)).cast (d' := .val (.int .i64 1)) (by kernel_rfl)) ?_
            refine zab rfl rfl rfl ((op_eql rfl (ev1 rfl) (ev1 rfl)).cast (d' := .val (.bool true)) (by kernel_rfl)) ?_
            refine zab rfl rfl rfl (zac (.inl rfl) (ev1 rfl)) ?_
            refine zai (gd_t (b := true) rfl rfl rfl) rfl rfl rfl (zap rfl fo122_1 (ev1 rfl)) (by simp only [upd, za, zaa]; exact rfl) ?_
            refine zai (gd_t (b := true) rfl rfl rfl) rfl rfl rfl (zaq rfl tb118 (ev2 rfl) rfl rfl) (by simp only [upd, za, zaa]; exact rfl) ?_
            refine zai (gd_t (b := true) rfl rfl rfl) rfl rfl rfl (op_ldmw rfl tb115 (ev1 rfl) rfl rfl) (by simp only [upd, za, zaa]; exact rfl) ?_
            refine zai (gd_t (b := true) rfl rfl rfl) rfl rfl rfl (zah [] [0] [] rfl (ev2 rfl) (ec (ev2 rfl) (ec (ev1 rfl) en)) rfl rfl (fit4_d _ _ _ _ _) rfl rfl rfl rfl rfl rfl) (by simp only [upd, za, zaa]; exact rfl) ?_
            refine zai (gd_t (b := true) rfl rfl rfl) rfl rfl rfl (op_not rfl (ev2 rfl)) (by simp only [upd, za, zaa]; exact rfl) ?_
            refine zab rfl rfl rfl (op_and rfl (ev1 rfl) (ev3 rfl (fun _ => rfl))) ?_
            refine zab rfl rfl rfl (zac (.inl rfl) (ev1 rfl)) ?_
            refine zag (gd_f rfl rfl rfl) rfl rfl rfl (zap rfl fo115_0 (ev1 rfl)) ?_
            refine zag (gd_f rfl rfl rfl) rfl rfl rfl (zaq rfl tb3 (ev2 rfl) rfl rfl) ?_
            refine zag (gd_f rfl rfl rfl) rfl rfl rfl (zac (.inl rfl) (ev1 rfl)) ?_
            refine zag (gd_f rfl rfl rfl) rfl rfl rfl ((op_shr (4) rfl (ev2 rfl) (ev2 rfl) (fun _ => ⟨rfl, by decide⟩)).cast (d' := .val (.int .i64 3)) (by kernel_rfl)) ?_
            refine zag (gd_f rfl rfl rfl) rfl rfl rfl ((op_iand rfl (ev2 rfl) (ev1 rfl)).cast (d' := .val (.int .i64 1)) (by kernel_rfl)) ?_
            refine zag (gd_f rfl rfl rfl) rfl rfl rfl ((op_eql rfl (ev2 rfl) (ev1 rfl)).cast (d' := .val (.bool false)) (by kernel_rfl)) ?_
            refine zag (gd_f rfl rfl rfl) rfl rfl rfl (zac (.inl rfl) (ev2 rfl)) ?_
            refine zag (gd_tt rfl rfl rfl) rfl rfl rfl (zap rfl fo122_2 (ev1 rfl)) ?_
            refine zag (gd_tt rfl rfl rfl) rfl rfl rfl (zaq rfl tb119 (ev2 rfl) rfl rfl) ?_
            refine zag (gd_tt rfl rfl rfl) rfl rfl rfl (zah [] [0] [] rfl (ev2 rfl) (ec (ev1 rfl) en) rfl rfl (blk4_d _) rfl rfl rfl rfl rfl rfl) ?_
            refine zag (gd_tt rfl rfl rfl) rfl rfl rfl (op_not rfl (ev2 rfl)) ?_
            refine zag (gd_f rfl rfl rfl) rfl rfl rfl ((op_and rfl (ev2 rfl) (ev2 rfl)).cast (d' := .val (.bool false)) (by rfl)) ?_
            refine zab rfl rfl rfl (op_or rfl (ev1 rfl) (ev3 rfl id)) ?_
            refine zae ?_
            refine dwp_cond rfl (fun c11 => ?_) (fun c11 => ?_)
            · refine zaf ?_
              refine zad ?_
              refine zab rfl rfl rfl (zac (.inr rfl) (ev1 rfl)) ?_
              refine zae ?_
              refine zan ?_
              refine kend0 (rs1 rfl (rv_t rfl)) rfl ?_
              rcases hk with hk | hk
              all_goals
                have hb : opB o = false := by
                  unfold opB
                  simp_all [mostK, errz, eqI_dec, errOr_z]
                  all_goals (first | (intros; omega) | (intros; simp_all; done))
                rw [hb]
                rfl
            · refine zam ?_
              refine zad ?_
              refine zab rfl rfl rfl ((op_add' rfl (ev1 rfl) (ev1 rfl) (fun _ => IntWalk.i64_in _ (by omega))).cast (d' := .val (.int .i64 5)) (by kernel_rfl)) ?_
              refine zab rfl rfl rfl (zac (.inl rfl) (ev1 rfl)) ?_
              refine zae ?_
              refine dloop_step ?_
              refine zaf ?_
              refine zad ?_
              refine zab rfl rfl rfl ((op_lss rfl (ev1 rfl) (ev1 rfl)).cast (d' := .val (.bool true)) (by kernel_rfl)) ?_
              refine zae ?_
              refine zaf ?_
              refine dwp_if_t rfl (rfl) ?_
              refine zam ?_
              refine zaf ?_
              refine zat ?_
              refine zaf ?_
              refine zaj 1 (by simp only [holes, List.cons_append, List.nil_append]; exact rfl) ?_
              refine zad ?_
              refine zab rfl rfl rfl (zac (.inl rfl) (ev1 rfl)) ?_
              refine zab rfl rfl rfl (op_ixwr (5) rfl av123 (ev1 rfl) (ev1 rfl) (fun _ => rfl) (fun _ => by decide) (Nat.le_of_ble_eq_true rfl)) ?_
              refine zak rfl rfl rfl (zao 7 rfl zr122 rfl) (by simp only [upd, za, zaa]; exact rfl) ?_
              refine zab rfl rfl rfl (zac (.inr rfl) (ev1 rfl)) ?_
              refine walk_s rfl rfl (op_stam rfl tb122 (ev1 rfl) (ev1 rfl) rfl rfl rfl rfl) (by simp only [upd, za, zaa]; exact rfl) ?_
              refine zae ?_
              refine zaf ?_
              refine zad ?_
              refine zab rfl rfl rfl (zap rfl fo115_0 (ev1 rfl)) ?_
              refine zab rfl rfl rfl (zaq rfl tb3 (ev1 rfl) rfl rfl) ?_
              refine zab rfl rfl rfl (zac (.inl rfl) (ev1 rfl)) ?_
              refine zab rfl rfl rfl ((op_shr (5) rfl (ev1 rfl) (ev1 rfl) (fun _ => ⟨rfl, by decide⟩)).cast (d' := .val (.int .i64 1)) (by kernel_rfl)) ?_
              refine zab rfl rfl rfl ((op_iand rfl (ev1 rfl) (ev1 rfl)).cast (d' := .val (.int .i64 1)) (by kernel_rfl)) ?_
              refine zab rfl rfl rfl ((op_eql rfl (ev1 rfl) (ev1 rfl)).cast (d' := .val (.bool true)) (by kernel_rfl)) ?_
              refine zab rfl rfl rfl (zac (.inl rfl) (ev1 rfl)) ?_
              refine zai (gd_t (b := true) rfl rfl rfl) rfl rfl rfl (zap rfl fo122_1 (ev1 rfl)) (by simp only [upd, za, zaa]; exact rfl) ?_
              refine zai (gd_t (b := true) rfl rfl rfl) rfl rfl rfl (zaq rfl tb118 (ev2 rfl) rfl rfl) (by simp only [upd, za, zaa]; exact rfl) ?_
              refine zai (gd_t (b := true) rfl rfl rfl) rfl rfl rfl (op_ldmw rfl tb115 (ev1 rfl) rfl rfl) (by simp only [upd, za, zaa]; exact rfl) ?_
              refine zai (gd_t (b := true) rfl rfl rfl) rfl rfl rfl (zah [] [0] [] rfl (ev2 rfl) (ec (ev2 rfl) (ec (ev1 rfl) en)) rfl rfl (fit5_d _ _ _ _ _) rfl rfl rfl rfl rfl rfl) (by simp only [upd, za, zaa]; exact rfl) ?_
              refine zai (gd_t (b := true) rfl rfl rfl) rfl rfl rfl (op_not rfl (ev2 rfl)) (by simp only [upd, za, zaa]; exact rfl) ?_
              refine zab rfl rfl rfl (op_and rfl (ev1 rfl) (ev3 rfl (fun _ => rfl))) ?_
              refine zab rfl rfl rfl (zac (.inl rfl) (ev1 rfl)) ?_
              refine zag (gd_f rfl rfl rfl) rfl rfl rfl (zap rfl fo115_0 (ev1 rfl)) ?_
              refine zag (gd_f rfl rfl rfl) rfl rfl rfl (zaq rfl tb3 (ev2 rfl) rfl rfl) ?_
              refine zag (gd_f rfl rfl rfl) rfl rfl rfl (zac (.inl rfl) (ev1 rfl)) ?_
              refine zag (gd_f rfl rfl rfl) rfl rfl rfl ((op_shr (5) rfl (ev2 rfl) (ev2 rfl) (fun _ => ⟨rfl, by decide⟩)).cast (d' := .val (.int .i64 1)) (by kernel_rfl)) ?_
              refine zag (gd_f rfl rfl rfl) rfl rfl rfl ((op_iand rfl (ev2 rfl) (ev1 rfl)).cast (d' := .val (.int .i64 1)) (by kernel_rfl)) ?_
              refine zag (gd_f rfl rfl rfl) rfl rfl rfl ((op_eql rfl (ev2 rfl) (ev1 rfl)).cast (d' := .val (.bool false)) (by kernel_rfl)) ?_
              refine zag (gd_f rfl rfl rfl) rfl rfl rfl (zac (.inl rfl) (ev2 rfl)) ?_
              refine zag (gd_tt rfl rfl rfl) rfl rfl rfl (zap rfl fo122_2 (ev1 rfl)) ?_
              refine zag (gd_tt rfl rfl rfl) rfl rfl rfl (zaq rfl tb119 (ev2 rfl) rfl rfl) ?_
              refine zag (gd_tt rfl rfl rfl) rfl rfl rfl (zah [] [0] [] rfl (ev2 rfl) (ec (ev1 rfl) en) rfl rfl (blk5_d _) rfl rfl rfl rfl rfl rfl) ?_
              refine zag (gd_tt rfl rfl rfl) rfl rfl rfl (op_not rfl (ev2 rfl)) ?_
              refine zag (gd_f rfl rfl rfl) rfl rfl rfl ((op_and rfl (ev2 rfl) (ev2 rfl)).cast (d' := .val (.bool false)) (by rfl)) ?_
              refine zab rfl rfl rfl (op_or rfl (ev1 rfl) (ev3 rfl id)) ?_
              refine zae ?_
              refine dwp_cond rfl (fun c13 => ?_) (fun c13 => ?_)
              · refine zaf ?_
                refine zad ?_
                refine zab rfl rfl rfl (zac (.inr rfl) (ev1 rfl)) ?_
                refine zae ?_
                refine zan ?_
                refine kend0 (rs1 rfl (rv_t rfl)) rfl ?_
                rcases hk with hk | hk
                all_goals
                  have hb : opB o = false := by
                    unfold opB
                    simp_all [mostK, errz, eqI_dec, errOr_z]
                    all_goals (first | (intros; omega) | (intros; simp_all; done))
                  rw [hb]
                  rfl
              · refine zam ?_
                refine zad ?_
                refine zab rfl rfl rfl ((op_add' rfl (ev1 rfl) (ev1 rfl) (fun _ => IntWalk.i64_in _ (by omega))).cast (d' := .val (.int .i64 6)) (by kernel_rfl)) ?_
                refine zab rfl rfl rfl (zac (.inl rfl) (ev1 rfl)) ?_
                refine zae ?_
                refine dloop_step ?_
                refine zaf ?_
                refine zad ?_
                refine zab rfl rfl rfl ((op_lss rfl (ev1 rfl) (ev1 rfl)).cast (d' := .val (.bool true)) (by kernel_rfl)) ?_
                refine zae ?_
                refine zaf ?_
                refine dwp_if_t rfl (rfl) ?_
                refine zam ?_
                refine zaf ?_
                refine zat ?_
                refine zaf ?_
                refine zaj 1 (by simp only [holes, List.cons_append, List.nil_append]; exact rfl) ?_
                refine zad ?_
                refine zab rfl rfl rfl (zac (.inl rfl) (ev1 rfl)) ?_
                refine zab rfl rfl rfl (op_ixwr (6) rfl av123 (ev1 rfl) (ev1 rfl) (fun _ => rfl) (fun _ => by decide) (Nat.le_of_ble_eq_true rfl)) ?_
                refine zak rfl rfl rfl (zao 8 rfl zr122 rfl) (by simp only [upd, za, zaa]; exact rfl) ?_
                refine zab rfl rfl rfl (zac (.inr rfl) (ev1 rfl)) ?_
                refine walk_s rfl rfl (op_stam rfl tb122 (ev1 rfl) (ev1 rfl) rfl rfl rfl rfl) (by simp only [upd, za, zaa]; exact rfl) ?_
                refine zae ?_
                refine zaf ?_
                refine zad ?_
                refine zab rfl rfl rfl (zap rfl fo115_0 (ev1 rfl)) ?_
                refine zab rfl rfl rfl (zaq rfl tb3 (ev1 rfl) rfl rfl) ?_
                refine zab rfl rfl rfl (zac (.inl rfl) (ev1 rfl)) ?_
                refine zab rfl rfl rfl ((op_shr (6) rfl (ev1 rfl) (ev1 rfl) (fun _ => ⟨rfl, by decide⟩)).cast (d' := .val (.int .i64 0)) (by kernel_rfl)) ?_
                refine zab rfl rfl rfl ((op_iand rfl (ev1 rfl) (ev1 rfl)).cast (d' := .val (.int .i64 0)) (by kernel_rfl)) ?_
                refine zab rfl rfl rfl ((op_eql rfl (ev1 rfl) (ev1 rfl)).cast (d' := .val (.bool false)) (by kernel_rfl)) ?_
                refine zab rfl rfl rfl (zac (.inl rfl) (ev1 rfl)) ?_
                refine zag (gd_t (b := false) rfl rfl rfl) rfl rfl rfl (zas (d := .junk)) ?_
                refine zag (gd_t (b := false) rfl rfl rfl) rfl rfl rfl (zas (d := .junk)) ?_
                refine zag (gd_t (b := false) rfl rfl rfl) rfl rfl rfl (zas (d := .junk)) ?_
                refine zag (gd_t (b := false) rfl rfl rfl) rfl rfl rfl (zas (d := .val (.bool false))) ?_
                refine zag (gd_t (b := false) rfl rfl rfl) rfl rfl rfl (zas (d := .val (.bool false))) ?_
                refine zab rfl rfl rfl ((op_and rfl (ev1 rfl) (ev3 rfl id)).cast (d' := .val (.bool false)) (by rfl)) ?_
                refine zab rfl rfl rfl (zac (.inl rfl) (ev1 rfl)) ?_
                refine zai (gd_f (b := false) rfl rfl rfl) rfl rfl rfl (zap rfl fo115_0 (ev1 rfl)) (by simp only [upd, za, zaa]; exact rfl) ?_
                refine zai (gd_f (b := false) rfl rfl rfl) rfl rfl rfl (zaq rfl tb3 (ev2 rfl) rfl rfl) (by simp only [upd, za, zaa]; exact rfl) ?_
                refine zai (gd_f (b := false) rfl rfl rfl) rfl rfl rfl (zac (.inl rfl) (ev1 rfl)) (by simp only [upd, za, zaa]; exact rfl) ?_
                refine zai (gd_f (b := false) rfl rfl rfl) rfl rfl rfl ((op_shr (6) rfl (ev2 rfl) (ev2 rfl) (fun _ => ⟨rfl, by decide⟩)).cast (d' := .val (.int .i64 0)) (by kernel_rfl)) (by simp only [upd, za, zaa]; exact rfl) ?_
                refine zai (gd_f (b := false) rfl rfl rfl) rfl rfl rfl ((op_iand rfl (ev2 rfl) (ev1 rfl)).cast (d' := .val (.int .i64 0)) (by kernel_rfl)) (by simp only [upd, za, zaa]; exact rfl) ?_
                refine zai (gd_f (b := false) rfl rfl rfl) rfl rfl rfl ((op_eql rfl (ev2 rfl) (ev1 rfl)).cast (d' := .val (.bool true)) (by kernel_rfl)) (by simp only [upd, za, zaa]; exact rfl) ?_
                refine zai (gd_f (b := false) rfl rfl rfl) rfl rfl rfl (zac (.inl rfl) (ev2 rfl)) (by simp only [upd, za, zaa]; exact rfl) ?_
                refine zai (gd_tt (g := true) (b := true) rfl rfl rfl) rfl rfl rfl (zap rfl fo122_2 (ev1 rfl)) (by simp only [upd, za, zaa]; exact rfl) ?_
                refine zai (gd_tt (g := true) (b := true) rfl rfl rfl) rfl rfl rfl (zaq rfl tb119 (ev2 rfl) rfl rfl) (by simp only [upd, za, zaa]; exact rfl) ?_
                refine zai (gd_tt (g := true) (b := true) rfl rfl rfl) rfl rfl rfl (zah [] [0] [] rfl (ev2 rfl) (ec (ev1 rfl) en) rfl rfl (blk6_d _) rfl rfl rfl rfl rfl rfl) (by simp only [upd, za, zaa]; exact rfl) ?_
                refine zai (gd_tt (g := true) (b := true) rfl rfl rfl) rfl rfl rfl (op_not rfl (ev2 rfl)) (by simp only [upd, za, zaa]; exact rfl) ?_
                refine zai (gd_f (b := false) rfl rfl rfl) rfl rfl rfl (op_and rfl (ev2 rfl) (ev3 rfl (fun _ => rfl))) (by simp only [upd, za, zaa]; exact rfl) ?_
                refine zab rfl rfl rfl (op_or rfl (ev1 rfl) (ev3 rfl (fun _ => rfl))) ?_
                refine zae ?_
                refine dwp_cond rfl (fun c15 => ?_) (fun c15 => ?_)
                · refine zaf ?_
                  refine zad ?_
                  refine zab rfl rfl rfl (zac (.inr rfl) (ev1 rfl)) ?_
                  refine zae ?_
                  refine zan ?_
                  refine kend0 (rs1 rfl (rv_t rfl)) rfl ?_
                  rcases hk with hk | hk
                  all_goals
                    have hb : opB o = false := by
                      unfold opB
                      simp_all [mostK, errz, eqI_dec, errOr_z]
                      all_goals (first | (intros; omega) | (intros; simp_all; done))
                    rw [hb]
                    rfl
                · refine zam ?_
                  refine zad ?_
                  refine zab rfl rfl rfl ((op_add' rfl (ev1 rfl) (ev1 rfl) (fun _ => IntWalk.i64_in _ (by omega))).cast (d' := .val (.int .i64 7)) (by kernel_rfl)) ?_
                  refine zab rfl rfl rfl (zac (.inl rfl) (ev1 rfl)) ?_
                  refine zae ?_
                  refine dloop_step ?_
                  refine zaf ?_
                  refine zad ?_
                  refine zab rfl rfl rfl ((op_lss rfl (ev1 rfl) (ev1 rfl)).cast (d' := .val (.bool true)) (by kernel_rfl)) ?_
                  refine zae ?_
                  refine zaf ?_
                  refine dwp_if_t rfl (rfl) ?_
                  refine zam ?_
                  refine zaf ?_
                  refine zat ?_
                  refine zaf ?_
                  refine zaj 1 (by simp only [holes, List.cons_append, List.nil_append]; exact rfl) ?_
                  refine zad ?_
                  refine zab rfl rfl rfl (zac (.inl rfl) (ev1 rfl)) ?_
                  refine zab rfl rfl rfl (op_ixwr (7) rfl av123 (ev1 rfl) (ev1 rfl) (fun _ => rfl) (fun _ => by decide) (Nat.le_of_ble_eq_true rfl)) ?_
                  refine zak rfl rfl rfl (zao 9 rfl zr122 rfl) (by simp only [upd, za, zaa]; exact rfl) ?_
                  refine zab rfl rfl rfl (zac (.inr rfl) (ev1 rfl)) ?_
                  refine walk_s rfl rfl (op_stam rfl tb122 (ev1 rfl) (ev1 rfl) rfl rfl rfl rfl) (by simp only [upd, za, zaa]; exact rfl) ?_
                  refine zae ?_
                  refine zaf ?_
                  refine zad ?_
                  refine zab rfl rfl rfl (zap rfl fo115_0 (ev1 rfl)) ?_
                  refine zab rfl rfl rfl (zaq rfl tb3 (ev1 rfl) rfl rfl) ?_
                  refine zab rfl rfl rfl (zac (.inl rfl) (ev1 rfl)) ?_
                  refine zab rfl rfl rfl ((op_shr (7) rfl (ev1 rfl) (ev1 rfl) (fun _ => ⟨rfl, by decide⟩)).cast (d' := .val (.int .i64 0)) (by kernel_rfl)) ?_
                  refine zab rfl rfl rfl ((op_iand rfl (ev1 rfl) (ev1 rfl)).cast (d' := .val (.int .i64 0)) (by kernel_rfl)) ?_
                  refine zab rfl rfl rfl ((op_eql rfl (ev1 rfl) (ev1 rfl)).cast (d' := .val (.bool false)) (by kernel_rfl)) ?_
                  refine zab rfl rfl rfl (zac (.inl rfl) (ev1 rfl)) ?_
                  refine zag (gd_t (b := false) rfl rfl rfl) rfl rfl rfl (zas (d := .junk)) ?_
                  refine zag (gd_t (b := false) rfl rfl rfl) rfl rfl rfl (zas (d := .junk)) ?_
                  refine zag (gd_t (b := false) rfl rfl rfl) rfl rfl rfl (zas (d := .junk)) ?_
                  refine zag (gd_t (b := false) rfl rfl rfl) rfl rfl rfl (zas (d := .val (.bool false))) ?_
                  refine zag (gd_t (b := false) rfl rfl rfl) rfl rfl rfl (zas (d := .val (.bool false))) ?_
                  refine zab rfl rfl rfl ((op_and rfl (ev1 rfl) (ev3 rfl id)).cast (d' := .val (.bool false)) (by rfl)) ?_
                  refine zab rfl rfl rfl (zac (.inl rfl) (ev1 rfl)) ?_
                  refine zai (gd_f (b := false) rfl rfl rfl) rfl rfl rfl (zap rfl fo115_0 (ev1 rfl)) (by simp only [upd, za, zaa]; exact rfl) ?_
                  refine zai (gd_f (b := false) rfl rfl rfl) rfl rfl rfl (zaq rfl tb3 (ev2 rfl) rfl rfl) (by simp only [upd, za, zaa]; exact rfl) ?_
                  refine zai (gd_f (b := false) rfl rfl rfl) rfl rfl rfl (zac (.inl rfl) (ev1 rfl)) (by simp only [upd, za, zaa]; exact rfl) ?_
                  refine zai (gd_f (b := false) rfl rfl rfl) rfl rfl rfl ((op_shr (7) rfl (ev2 rfl) (ev2 rfl) (fun _ => ⟨rfl, by decide⟩)).cast (d' := .val (.int .i64 0)) (by kernel_rfl)) (by simp only [upd, za, zaa]; exact rfl) ?_
                  refine zai (gd_f (b := false) rfl rfl rfl) rfl rfl rfl ((op_iand rfl (ev2 rfl) (ev1 rfl)).cast (d' := .val (.int .i64 0)) (by kernel_rfl)) (by simp only [upd, za, zaa]; exact rfl) ?_
                  refine zai (gd_f (b := false) rfl rfl rfl) rfl rfl rfl ((op_eql rfl (ev2 rfl) (ev1 rfl)).cast (d' := .val (.bool true)) (by kernel_rfl)) (by simp only [upd, za, zaa]; exact rfl) ?_
                  refine zai (gd_f (b := false) rfl rfl rfl) rfl rfl rfl (zac (.inl rfl) (ev2 rfl)) (by simp only [upd, za, zaa]; exact rfl) ?_
                  refine zai (gd_tt (g := true) (b := true) rfl rfl rfl) rfl rfl rfl (zap rfl fo122_2 (ev1 rfl)) (by simp only [upd, za, zaa]; exact rfl) ?_
                  refine zai (gd_tt (g := true) (b := true) rfl rfl rfl) rfl rfl rfl (zaq rfl tb119 (ev2 rfl) rfl rfl) (by simp only [upd, za, zaa]; exact rfl) ?_
                  refine zai (gd_tt (g := true) (b := true) rfl rfl rfl) rfl rfl rfl (zah [] [0] [] rfl (ev2 rfl) (ec (ev1 rfl) en) rfl rfl (blk7_d _) rfl rfl rfl rfl rfl rfl) (by simp only [upd, za, zaa]; exact rfl) ?_
                  refine zai (gd_tt (g := true) (b := true) rfl rfl rfl) rfl rfl rfl (op_not rfl (ev2 rfl)) (by simp only [upd, za, zaa]; exact rfl) ?_
                  refine zai (gd_f (b := false) rfl rfl rfl) rfl rfl rfl (op_and rfl (ev2 rfl) (ev3 rfl (fun _ => rfl))) (by simp only [upd, za, zaa]; exact rfl) ?_
                  refine zab rfl rfl rfl (op_or rfl (ev1 rfl) (ev3 rfl (fun _ => rfl))) ?_
                  refine zae ?_
                  refine dwp_cond rfl (fun c17 => ?_) (fun c17 => ?_)
                  · refine zaf ?_
                    refine zad ?_
                    refine zab rfl rfl rfl (zac (.inr rfl) (ev1 rfl)) ?_
                    refine zae ?_
                    refine zan ?_
                    refine kend0 (rs1 rfl (rv_t rfl)) rfl ?_
                    rcases hk with hk | hk
                    all_goals
                      have hb : opB o = false := by
                        unfold opB
                        simp_all [mostK, errz, eqI_dec, errOr_z]
                        all_goals (first | (intros; omega) | (intros; simp_all; done))
                      rw [hb]
                      rfl
                  · refine zam ?_
                    refine zad ?_
                    refine zab rfl rfl rfl ((op_add' rfl (ev1 rfl) (ev1 rfl) (fun _ => IntWalk.i64_in _ (by omega))).cast (d' := .val (.int .i64 8)) (by kernel_rfl)) ?_
                    refine zab rfl rfl rfl (zac (.inl rfl) (ev1 rfl)) ?_
                    refine zae ?_
                    refine dloop_step ?_
                    refine zaf ?_
                    refine zad ?_
                    refine zab rfl rfl rfl ((op_lss rfl (ev1 rfl) (ev1 rfl)).cast (d' := .val (.bool false)) (by kernel_rfl)) ?_
                    refine zae ?_
                    refine zaf ?_
                    refine dwp_if_f rfl (rfl) ?_
                    refine dwp_exit ?_
                    refine zaf ?_
                    refine zad ?_
                    refine zab rfl rfl rfl (zac (.inr rfl) (ev1 rfl)) ?_
                    refine zae ?_
                    refine zan ?_
                    refine kend0 (rs1 rfl (rv_t rfl)) rfl ?_
                    rcases hk with hk | hk
                    all_goals
                      have hb : opB o = true := by
                        unfold opB
                        simp_all [mostK, errz, eqI_dec, errOr_z]
                        all_goals (first | (intros; omega) | (intros; simp_all; done))
                      rw [hb]
                      rfl
set_option maxRecDepth 4000 in
set_option maxHeartbeats 1000000 in
theorem opc_c34 (o : OpM) (pf : FuncId) (hk : o.kd = 3 ∨ o.kd = 4) (hK : DFun Tryz.prog 62 [.val (.int .i64 o.kd)] [] (.tup [.agg [iD 47, iD 0, .fn (.func pf) [] [], .fn (.func 139) [] []], .val (.bool true)]) []) : DFun Tryz.prog 29 [.agg (opD o)] [] (.val (.int .i64 (errOr (opB o) 220))) [] := by
  refine zal (N := 54) 0 (by kernel_rfl) Tryz.func29 rfl rfl rfl (by simp only [fr0, Nat.zero_add, Nat.reduceAdd]; exact rfl) rfl fun s0 hs0 => ?_
  refine zaf ?_
  refine zaj 1 (by simp only [holes, List.cons_append, List.nil_append]; exact rfl) ?_
  refine zad ?_
  refine zak rfl rfl rfl (op_boxam 0 rfl (ev1 rfl) rfl) (by simp only [upd, za, zaa]; exact rfl) ?_
  refine zab rfl rfl rfl (zac (.inr rfl) (ev1 rfl)) ?_
  refine zae ?_
  refine zaf ?_
  refine zaj 1 (by simp only [holes, List.cons_append, List.nil_append]; exact rfl) ?_
  refine zad ?_
  refine zab rfl rfl rfl (zap rfl fo47_1 (ev1 rfl)) ?_
  refine zab rfl rfl rfl (zaq rfl tb3 (ev1 rfl) rfl rfl) ?_
  refine zab rfl rfl rfl (zah [] [] [] rfl (ev1 rfl) (ec (ev1 rfl) en) rfl rfl (hK) rfl rfl rfl rfl rfl rfl) ?_
  refine zab rfl rfl rfl (zac (.inl rfl) (ev1 rfl)) ?_
  refine zab rfl rfl rfl (zar rfl (ev1 rfl) rfl) ?_
  refine zab rfl rfl rfl (zar rfl (ev1 rfl) rfl) ?_
  refine zak rfl rfl rfl (zao 1 rfl zr115 rfl) (by simp only [upd, za, zaa]; exact rfl) ?_
  refine walk_s rfl rfl (op_stam rfl tb115 (ev1 rfl) (ev1 rfl) rfl rfl rfl rfl) (by simp only [upd, za, zaa]; exact rfl) ?_
  refine zab rfl rfl rfl (zac (.inr rfl) (ev1 rfl)) ?_
  refine zae ?_
  refine zaf ?_
  refine zaf ?_
  refine zad ?_
  refine zab rfl rfl rfl (zac (.inl rfl) (ev1 rfl)) ?_
  refine zab rfl rfl rfl ((op_not rfl (ev1 rfl)).cast (d' := .val (.bool false)) (by kernel_rfl)) ?_
  refine zab rfl rfl rfl (zac (.inl rfl) (ev1 rfl)) ?_
  refine zai (gd_f (b := false) rfl rfl rfl) rfl rfl rfl (zap rfl fo47_0 (ev1 rfl)) (by simp only [upd, za, zaa]; exact rfl) ?_
  refine zai (gd_f (b := false) rfl rfl rfl) rfl rfl rfl (op_ldmv (R := [_, _, _]) rfl tb29 (ev2 rfl) rfl rfl rfl) (by simp only [upd, za, zaa]; exact rfl) ?_
  refine zai (gd_f (b := false) rfl rfl rfl) rfl rfl rfl (zah [] [] [] rfl (ev1 rfl) (ec (ev2 rfl) en) rfl rfl (idCheck_d _) rfl rfl rfl rfl rfl rfl) (by simp only [upd, za, zaa]; exact rfl) ?_
  refine zai (gd_f (b := false) rfl rfl rfl) rfl rfl rfl (op_neq rfl (ev2 rfl) (ev1 rfl)) (by simp only [upd, za, zaa]; exact rfl) ?_
  refine zab rfl rfl rfl (op_or rfl (ev1 rfl) (ev3 rfl (fun _ => rfl))) ?_
  refine zae ?_
  refine dwp_cond rfl (fun c1 => ?_) (fun c1 => ?_)
  · refine zaf ?_
    refine zad ?_
    refine zab rfl rfl rfl (zac (.inr rfl) (ev1 rfl)) ?_
    refine zae ?_
    refine zan ?_
    refine kend0 (rs1 rfl (rv_t rfl)) rfl ?_
    rcases hk with hk | hk
    all_goals
      have hb : opB o = false := by
        unfold opB
        simp_all [mostK, errz, eqI_dec, errOr_z]
        all_goals (first | (intros; omega) | (intros; simp_all; done))
      rw [hb]
      rfl
  · refine zam ?_
    refine zaf ?_
    refine zaf ?_
    refine zad ?_
    refine zab rfl rfl rfl (zah [] [] [] rfl (ev1 rfl) en rfl rfl (fields_d) rfl rfl rfl rfl rfl rfl) ?_
    refine zab rfl rfl rfl (zac (.inl rfl) (ev1 rfl)) ?_
    refine zae ?_
    refine zat ?_
    refine dwp_dloop (dloop_step ?_)
    refine zaf ?_
    refine zad ?_
    refine zab rfl rfl rfl ((op_lss rfl (ev1 rfl) (ev1 rfl)).cast (d' := .val (.bool true)) (by kernel_rfl)) ?_
    refine zae ?_
    refine zaf ?_
    refine dwp_if_t rfl (rfl) ?_
    refine zam ?_
    refine zaf ?_
    refine zat ?_
    refine zaf ?_
    refine zaj 1 (by simp only [holes, List.cons_append, List.nil_append]; exact rfl) ?_
    refine zad ?_
    refine zab rfl rfl rfl (zac (.inl rfl) (ev1 rfl)) ?_
    refine zab rfl rfl rfl (op_ixwr (0) rfl av123 (ev1 rfl) (ev1 rfl) (fun _ => rfl) (fun _ => by decide) (Nat.le_of_ble_eq_true rfl)) ?_
    refine zak rfl rfl rfl (zao 2 rfl zr122 rfl) (by simp only [upd, za, zaa]; exact rfl) ?_
    refine zab rfl rfl rfl (zac (.inr rfl) (ev1 rfl)) ?_
    refine walk_s rfl rfl (op_stam rfl tb122 (ev1 rfl) (ev1 rfl) rfl rfl rfl rfl) (by simp only [upd, za, zaa]; exact rfl) ?_
    refine zae ?_
    refine zaf ?_
    refine zad ?_
    refine zab rfl rfl rfl (zap rfl fo115_0 (ev1 rfl)) ?_
    refine zab rfl rfl rfl (zaq rfl tb3 (ev1 rfl) rfl rfl) ?_
    refine zab rfl rfl rfl (zac (.inl rfl) (ev1 rfl)) ?_
    refine zab rfl rfl rfl ((op_shr (0) rfl (ev1 rfl) (ev1 rfl) (fun _ => ⟨rfl, by decide⟩)).cast (d' := .val (.int .i64 47)) (by kernel_rfl)) ?_
    refine zab rfl rfl rfl ((op_iand rfl (ev1 rfl) (ev1 rfl)).cast (d' := .val (.int .i64 1)) (by kernel_rfl)) ?_
    refine zab rfl rfl rfl ((op_eql rfl (ev1 rfl) (ev1 rfl)).cast (d' := .val (.bool true)) (by kernel_rfl)) ?_
    refine zab rfl rfl rfl (zac (.inl rfl) (ev1 rfl)) ?_
    refine zai (gd_t (b := true) rfl rfl rfl) rfl rfl rfl (zap rfl fo122_1 (ev1 rfl)) (by simp only [upd, za, zaa]; exact rfl) ?_
    refine zai (gd_t (b := true) rfl rfl rfl) rfl rfl rfl (zaq rfl tb118 (ev2 rfl) rfl rfl) (by simp only [upd, za, zaa]; exact rfl) ?_
    refine zai (gd_t (b := true) rfl rfl rfl) rfl rfl rfl (op_ldmw rfl tb115 (ev1 rfl) rfl rfl) (by simp only [upd, za, zaa]; exact rfl) ?_
    refine zai (gd_t (b := true) rfl rfl rfl) rfl rfl rfl (zah [] [0] [] rfl (ev2 rfl) (ec (ev2 rfl) (ec (ev1 rfl) en)) rfl rfl (fit0_d _ _ _ _ _) rfl rfl rfl rfl rfl rfl) (by simp only [upd, za, zaa]; exact rfl) ?_
    refine zai (gd_t (b := true) rfl rfl rfl) rfl rfl rfl (op_not rfl (ev2 rfl)) (by simp only [upd, za, zaa]; exact rfl) ?_
    refine zab rfl rfl rfl (op_and rfl (ev1 rfl) (ev3 rfl (fun _ => rfl))) ?_
    refine zab rfl rfl rfl (zac (.inl rfl) (ev1 rfl)) ?_
    refine zag (gd_f rfl rfl rfl) rfl rfl rfl (zap rfl fo115_0 (ev1 rfl)) ?_
    refine zag (gd_f rfl rfl rfl) rfl rfl rfl (zaq rfl tb3 (ev2 rfl) rfl rfl) ?_
    refine zag (gd_f rfl rfl rfl) rfl rfl rfl (zac (.inl rfl) (ev1 rfl)) ?_
    refine zag (gd_f rfl rfl rfl) rfl rfl rfl ((op_shr (0) rfl (ev2 rfl) (ev2 rfl) (fun _ => ⟨rfl, by decide⟩)).cast (d' := .val (.int .i64 47)) (by kernel_rfl)) ?_
    refine zag (gd_f rfl rfl rfl) rfl rfl rfl ((op_iand rfl (ev2 rfl) (ev1 rfl)).cast (d' := .val (.int .i64 1)) (by kernel_rfl)) ?_
    refine zag (gd_f rfl rfl rfl) rfl rfl rfl ((op_eql rfl (ev2 rfl) (ev1 rfl)).cast (d' := .val (.bool false)) (by kernel_rfl)) ?_
    refine zag (gd_f rfl rfl rfl) rfl rfl rfl (zac (.inl rfl) (ev2 rfl)) ?_
    refine zag (gd_tt rfl rfl rfl) rfl rfl rfl (zap rfl fo122_2 (ev1 rfl)) ?_
    refine zag (gd_tt rfl rfl rfl) rfl rfl rfl (zaq rfl tb119 (ev2 rfl) rfl rfl) ?_
    refine zag (gd_tt rfl rfl rfl) rfl rfl rfl (zah [] [0] [] rfl (ev2 rfl) (ec (ev1 rfl) en) rfl rfl (blk0_d _) rfl rfl rfl rfl rfl rfl) ?_
    refine zag (gd_tt rfl rfl rfl) rfl rfl rfl (op_not rfl (ev2 rfl)) ?_
    refine zag (gd_f rfl rfl rfl) rfl rfl rfl ((op_and rfl (ev2 rfl) (ev2 rfl)).cast (d' := .val (.bool false)) (by rfl)) ?_
    refine zab rfl rfl rfl (op_or rfl (ev1 rfl) (ev3 rfl id)) ?_
    refine zae ?_
    refine dwp_cond rfl (fun c3 => ?_) (fun c3 => ?_)
    · refine zaf ?_
      refine zad ?_
      refine zab rfl rfl rfl (zac (.inr rfl) (ev1 rfl)) ?_
      refine zae ?_
      refine zan ?_
      refine kend0 (rs1 rfl (rv_t rfl)) rfl ?_
      rcases hk with hk | hk
      all_goals
        have hb : opB o = false := by
          unfold opB
          simp_all [mostK, errz, eqI_dec, errOr_z]
          all_goals (first | (intros; omega) | (intros; simp_all; done))
        rw [hb]
        rfl
    · refine zam ?_
      refine zad ?_
      refine zab rfl rfl rfl ((op_add' rfl (ev1 rfl) (ev1 rfl) (fun _ => IntWalk.i64_in _ (by omega))).cast (d' := .val (.int .i64 1)) (by kernel_rfl)) ?_
      refine zab rfl rfl rfl (zac (.inl rfl) (ev1 rfl)) ?_
      refine zae ?_
      refine dloop_step ?_
      refine zaf ?_
      refine zad ?_
      refine zab rfl rfl rfl ((op_lss rfl (ev1 rfl) (ev1 rfl)).cast (d' := .val (.bool true)) (by kernel_rfl)) ?_
      refine zae ?_
      refine zaf ?_
      refine dwp_if_t rfl (rfl) ?_
      refine zam ?_
      refine zaf ?_
      refine zat ?_
      refine zaf ?_
      refine zaj 1 (by simp only [holes, List.cons_append, List.nil_append]; exact rfl) ?_
      refine zad ?_
      refine zab rfl rfl rfl (zac (.inl rfl) (ev1 rfl)) ?_
      refine zab rfl rfl rfl (op_ixwr (1) rfl av123 (ev1 rfl) (ev1 rfl) (fun _ => rfl) (fun _ => by decide) (Nat.le_of_ble_eq_true rfl)) ?_
      refine zak rfl rfl rfl (zao 3 rfl zr122 rfl) (by simp only [upd, za, zaa]; exact rfl) ?_
      refine zab rfl rfl rfl (zac (.inr rfl) (ev1 rfl)) ?_
      refine walk_s rfl rfl (op_stam rfl tb122 (ev1 rfl) (ev1 rfl) rfl rfl rfl rfl) (by simp only [upd, za, zaa]; exact rfl) ?_
      refine zae ?_
      refine zaf ?_
      refine zad ?_
      refine zab rfl rfl rfl (zap rfl fo115_0 (ev1 rfl)) ?_
      refine zab rfl rfl rfl (zaq rfl tb3 (ev1 rfl) rfl rfl) ?_
      refine zab rfl rfl rfl (zac (.inl rfl) (ev1 rfl)) ?_
      refine zab rfl rfl rfl ((op_shr (1) rfl (ev1 rfl) (ev1 rfl) (fun _ => ⟨rfl, by decide⟩)).cast (d' := .val (.int .i64 23)) (by kernel_rfl)) ?_
      refine zab rfl rfl rfl ((op_iand rfl (ev1 rfl) (ev1 rfl)).cast (d' := .val (.int .i64 1)) (by kernel_rfl)) ?_
      refine zab rfl rfl rfl ((op_eql rfl (ev1 rfl) (ev1 rfl)).cast (d' := .val (.bool true)) (by kernel_rfl)) ?_
      refine zab rfl rfl rfl (zac (.inl rfl) (ev1 rfl)) ?_
      refine zai (gd_t (b := true) rfl rfl rfl) rfl rfl rfl (zap rfl fo122_1 (ev1 rfl)) (by simp only [upd, za, zaa]; exact rfl) ?_
      refine zai (gd_t (b := true) rfl rfl rfl) rfl rfl rfl (zaq rfl tb118 (ev2 rfl) rfl rfl) (by simp only [upd, za, zaa]; exact rfl) ?_
      refine zai (gd_t (b := true) rfl rfl rfl) rfl rfl rfl (op_ldmw rfl tb115 (ev1 rfl) rfl rfl) (by simp only [upd, za, zaa]; exact rfl) ?_
      refine zai (gd_t (b := true) rfl rfl rfl) rfl rfl rfl (zah [] [0] [] rfl (ev2 rfl) (ec (ev2 rfl) (ec (ev1 rfl) en)) rfl rfl (fit1_d _ _ _ _ _) rfl rfl rfl rfl rfl rfl) (by simp only [upd, za, zaa]; exact rfl) ?_
      refine zai (gd_t (b := true) rfl rfl rfl) rfl rfl rfl (op_not rfl (ev2 rfl)) (by simp only [upd, za, zaa]; exact rfl) ?_
      refine zab rfl rfl rfl (op_and rfl (ev1 rfl) (ev3 rfl (fun _ => rfl))) ?_
      refine zab rfl rfl rfl (zac (.inl rfl) (ev1 rfl)) ?_
      refine zag (gd_f rfl rfl rfl) rfl rfl rfl (zap rfl fo115_0 (ev1 rfl)) ?_
      refine zag (gd_f rfl rfl rfl) rfl rfl rfl (zaq rfl tb3 (ev2 rfl) rfl rfl) ?_
      refine zag (gd_f rfl rfl rfl) rfl rfl rfl (zac (.inl rfl) (ev1 rfl)) ?_
      refine zag (gd_f rfl rfl rfl) rfl rfl rfl ((op_shr (1) rfl (ev2 rfl) (ev2 rfl) (fun _ => ⟨rfl, by decide⟩)).cast (d' := .val (.int .i64 23)) (by kernel_rfl)) ?_
      refine zag (gd_f rfl rfl rfl) rfl rfl rfl ((op_iand rfl (ev2 rfl) (ev1 rfl)).cast (d' := .val (.int .i64 1)) (by kernel_rfl)) ?_
      refine zag (gd_f rfl rfl rfl) rfl rfl rfl ((op_eql rfl (ev2 rfl) (ev1 rfl)).cast (d' := .val (.bool false)) (by kernel_rfl)) ?_
      refine zag (gd_f rfl rfl rfl) rfl rfl rfl (zac (.inl rfl) (ev2 rfl)) ?_
      refine zag (gd_tt rfl rfl rfl) rfl rfl rfl (zap rfl fo122_2 (ev1 rfl)) ?_
      refine zag (gd_tt rfl rfl rfl) rfl rfl rfl (zaq rfl tb119 (ev2 rfl) rfl rfl) ?_
      refine zag (gd_tt rfl rfl rfl) rfl rfl rfl (zah [] [0] [] rfl (ev2 rfl) (ec (ev1 rfl) en) rfl rfl (blk1_d _) rfl rfl rfl rfl rfl rfl) ?_
      refine zag (gd_tt rfl rfl rfl) rfl rfl rfl (op_not rfl (ev2 rfl)) ?_
      refine zag (gd_f rfl rfl rfl) rfl rfl rfl ((op_and rfl (ev2 rfl) (ev2 rfl)).cast (d' := .val (.bool false)) (by rfl)) ?_
      refine zab rfl rfl rfl (op_or rfl (ev1 rfl) (ev3 rfl id)) ?_
      refine zae ?_
      refine dwp_cond rfl (fun c5 => ?_) (fun c5 => ?_)
      · refine zaf ?_
        refine zad ?_
        refine zab rfl rfl rfl (zac (.inr rfl) (ev1 rfl)) ?_
        refine zae ?_
        refine zan ?_
        refine kend0 (rs1 rfl (rv_t rfl)) rfl ?_
        rcases hk with hk | hk
        all_goals
          have hb : opB o = false := by
            unfold opB
            simp_all [mostK, errz, eqI_dec, errOr_z]
            all_goals (first | (intros; omega) | (intros; simp_all; done))
          rw [hb]
          rfl
      · refine zam ?_
        refine zad ?_
        refine zab rfl rfl rfl ((op_add' rfl (ev1 rfl) (ev1 rfl) (fun _ => IntWalk.i64_in _ (by omega))).cast (d' := .val (.int .i64 2)) (by kernel_rfl)) ?_
        refine zab rfl rfl rfl (zac (.inl rfl) (ev1 rfl)) ?_
        refine zae ?_
        refine dloop_step ?_
        refine zaf ?_
        refine zad ?_
        refine zab rfl rfl rfl ((op_lss rfl (ev1 rfl) (ev1 rfl)).cast (d' := .val (.bool true)) (by kernel_rfl)) ?_
        refine zae ?_
        refine zaf ?_
        refine dwp_if_t rfl (rfl) ?_
        refine zam ?_
        refine zaf ?_
        refine zat ?_
        refine zaf ?_
        refine zaj 1 (by simp only [holes, List.cons_append, List.nil_append]; exact rfl) ?_
        refine zad ?_
        refine zab rfl rfl rfl (zac (.inl rfl) (ev1 rfl)) ?_
        refine zab rfl rfl rfl (op_ixwr (2) rfl av123 (ev1 rfl) (ev1 rfl) (fun _ => rfl) (fun _ => by decide) (Nat.le_of_ble_eq_true rfl)) ?_
        refine zak rfl rfl rfl (zao 4 rfl zr122 rfl) (by simp only [upd, za, zaa]; exact rfl) ?_
        refine zab rfl rfl rfl (zac (.inr rfl) (ev1 rfl)) ?_
        refine walk_s rfl rfl (op_stam rfl tb122 (ev1 rfl) (ev1 rfl) rfl rfl rfl rfl) (by simp only [upd, za, zaa]; exact rfl) ?_
        refine zae ?_
        refine zaf ?_
        refine zad ?_
        refine zab rfl rfl rfl (zap rfl fo115_0 (ev1 rfl)) ?_
        refine zab rfl rfl rfl (zaq rfl tb3 (ev1 rfl) rfl rfl) ?_
        refine zab rfl rfl rfl (zac (.inl rfl) (ev1 rfl)) ?_
        refine zab rfl rfl rfl ((op_shr (2) rfl (ev1 rfl) (ev1 rfl) (fun _ => ⟨rfl, by decide⟩)).cast (d' := .val (.int .i64 11)) (by kernel_rfl)) ?_
        refine zab rfl rfl rfl ((op_iand rfl (ev1 rfl) (ev1 rfl)).cast (d' := .val (.int .i64 1)) (by kernel_rfl)) ?_
        refine zab rfl rfl rfl ((op_eql rfl (ev1 rfl) (ev1 rfl)).cast (d' := .val (.bool true)) (by kernel_rfl)) ?_
        refine zab rfl rfl rfl (zac (.inl rfl) (ev1 rfl)) ?_
        refine zai (gd_t (b := true) rfl rfl rfl) rfl rfl rfl (zap rfl fo122_1 (ev1 rfl)) (by simp only [upd, za, zaa]; exact rfl) ?_
        refine zai (gd_t (b := true) rfl rfl rfl) rfl rfl rfl (zaq rfl tb118 (ev2 rfl) rfl rfl) (by simp only [upd, za, zaa]; exact rfl) ?_
        refine zai (gd_t (b := true) rfl rfl rfl) rfl rfl rfl (op_ldmw rfl tb115 (ev1 rfl) rfl rfl) (by simp only [upd, za, zaa]; exact rfl) ?_
        refine zai (gd_t (b := true) rfl rfl rfl) rfl rfl rfl (zah [] [0] [] rfl (ev2 rfl) (ec (ev2 rfl) (ec (ev1 rfl) en)) rfl rfl (fit2_d _ _ _ _ _) rfl rfl rfl rfl rfl rfl) (by simp only [upd, za, zaa]; exact rfl) ?_
        refine zai (gd_t (b := true) rfl rfl rfl) rfl rfl rfl (op_not rfl (ev2 rfl)) (by simp only [upd, za, zaa]; exact rfl) ?_
        refine zab rfl rfl rfl (op_and rfl (ev1 rfl) (ev3 rfl (fun _ => rfl))) ?_
        refine zab rfl rfl rfl (zac (.inl rfl) (ev1 rfl)) ?_
        refine zag (gd_f rfl rfl rfl) rfl rfl rfl (zap rfl fo115_0 (ev1 rfl)) ?_
        refine zag (gd_f rfl rfl rfl) rfl rfl rfl (zaq rfl tb3 (ev2 rfl) rfl rfl) ?_
        refine zag (gd_f rfl rfl rfl) rfl rfl rfl (zac (.inl rfl) (ev1 rfl)) ?_
        refine zag (gd_f rfl rfl rfl) rfl rfl rfl ((op_shr (2) rfl (ev2 rfl) (ev2 rfl) (fun _ => ⟨rfl, by decide⟩)).cast (d' := .val (.int .i64 11)) (by kernel_rfl)) ?_
        refine zag (gd_f rfl rfl rfl) rfl rfl rfl ((op_iand rfl (ev2 rfl) (ev1 rfl)).cast (d' := .val (.int .i64 1)) (by kernel_rfl)) ?_
        refine zag (gd_f rfl rfl rfl) rfl rfl rfl ((op_eql rfl (ev2 rfl) (ev1 rfl)).cast (d' := .val (.bool false)) (by kernel_rfl)) ?_
        refine zag (gd_f rfl rfl rfl) rfl rfl rfl (zac (.inl rfl) (ev2 rfl)) ?_
        refine zag (gd_tt rfl rfl rfl) rfl rfl rfl (zap rfl fo122_2 (ev1 rfl)) ?_
        refine zag (gd_tt rfl rfl rfl) rfl rfl rfl (zaq rfl tb119 (ev2 rfl) rfl rfl) ?_
        refine zag (gd_tt rfl rfl rfl) rfl rfl rfl (zah [] [0] [] rfl (ev2 rfl) (ec (ev1 rfl) en) rfl rfl (blk2_d _) rfl rfl rfl rfl rfl rfl) ?_
        refine zag (gd_tt rfl rfl rfl) rfl rfl rfl (op_not rfl (ev2 rfl)) ?_
        refine zag (gd_f rfl rfl rfl) rfl rfl rfl ((op_and rfl (ev2 rfl) (ev2 rfl)).cast (d' := .val (.bool false)) (by rfl)) ?_
        refine zab rfl rfl rfl (op_or rfl (ev1 rfl) (ev3 rfl id)) ?_
        refine zae ?_
        refine dwp_cond rfl (fun c7 => ?_) (fun c7 => ?_)
        · refine zaf ?_
          refine zad ?_
          refine zab rfl rfl rfl (zac (.inr rfl) (ev1 rfl)) ?_
          refine zae ?_
          refine zan ?_
          refine kend0 (rs1 rfl (rv_t rfl)) rfl ?_
          rcases hk with hk | hk
          all_goals
            have hb : opB o = false := by
              unfold opB
              simp_all [mostK, errz, eqI_dec, errOr_z]
              all_goals (first | (intros; omega) | (intros; simp_all; done))
            rw [hb]
            rfl
        · refine zam ?_
          refine zad ?_
          refine zab rfl rfl rfl ((op_add' rfl (ev1 rfl) (ev1 rfl) (fun _ => IntWalk.i64_in _ (by omega))).cast (d' := .val (.int .i64 3)) (by kernel_rfl)) ?_
          refine zab rfl rfl rfl (zac (.inl rfl) (ev1 rfl)) ?_
          refine zae ?_
          refine dloop_step ?_
          refine zaf ?_
          refine zad ?_
          refine zab rfl rfl rfl ((op_lss rfl (ev1 rfl) (ev1 rfl)).cast (d' := .val (.bool true)) (by kernel_rfl)) ?_
          refine zae ?_
          refine zaf ?_
          refine dwp_if_t rfl (rfl) ?_
          refine zam ?_
          refine zaf ?_
          refine zat ?_
          refine zaf ?_
          refine zaj 1 (by simp only [holes, List.cons_append, List.nil_append]; exact rfl) ?_
          refine zad ?_
          refine zab rfl rfl rfl (zac (.inl rfl) (ev1 rfl)) ?_
          refine zab rfl rfl rfl (op_ixwr (3) rfl av123 (ev1 rfl) (ev1 rfl) (fun _ => rfl) (fun _ => by decide) (Nat.le_of_ble_eq_true rfl)) ?_
          refine zak rfl rfl rfl (zao 5 rfl zr122 rfl) (by simp only [upd, za, zaa]; exact rfl) ?_
          refine zab rfl rfl rfl (zac (.inr rfl) (ev1 rfl)) ?_
          refine walk_s rfl rfl (op_stam rfl tb122 (ev1 rfl) (ev1 rfl) rfl rfl rfl rfl) (by simp only [upd, za, zaa]; exact rfl) ?_
          refine zae ?_
          refine zaf ?_
          refine zad ?_
          refine zab rfl rfl rfl (zap rfl fo115_0 (ev1 rfl)) ?_
          refine zab rfl rfl rfl (zaq rfl tb3 (ev1 rfl) rfl rfl) ?_
          refine zab rfl rfl rfl (zac (.inl rfl) (ev1 rfl)) ?_
          refine zab rfl rfl rfl ((op_shr (3) rfl (ev1 rfl) (ev1 rfl) (fun _ => ⟨rfl, by decide⟩)).cast (d' := .val (.int .i64 5)) (by kernel_rfl)) ?_
          refine zab rfl rfl rfl ((op_iand rfl (ev1 rfl) (ev1 rfl)).cast (d' := .val (.int .i64 1)) (by kernel_rfl)) ?_
          refine zab rfl rfl rfl ((op_eql rfl (ev1 rfl) (ev1 rfl)).cast (d' := .val (.bool true)) (by kernel_rfl)) ?_
          refine zab rfl rfl rfl (zac (.inl rfl) (ev1 rfl)) ?_
          refine zai (gd_t (b := true) rfl rfl rfl) rfl rfl rfl (zap rfl fo122_1 (ev1 rfl)) (by simp only [upd, za, zaa]; exact rfl) ?_
          refine zai (gd_t (b := true) rfl rfl rfl) rfl rfl rfl (zaq rfl tb118 (ev2 rfl) rfl rfl) (by simp only [upd, za, zaa]; exact rfl) ?_
          refine zai (gd_t (b := true) rfl rfl rfl) rfl rfl rfl (op_ldmw rfl tb115 (ev1 rfl) rfl rfl) (by simp only [upd, za, zaa]; exact rfl) ?_
          refine zai (gd_t (b := true) rfl rfl rfl) rfl rfl rfl (zah [] [0] [] rfl (ev2 rfl) (ec (ev2 rfl) (ec (ev1 rfl) en)) rfl rfl (fit3_d _ _ _ _ _) rfl rfl rfl rfl rfl rfl) (by simp only [upd, za, zaa]; exact rfl) ?_
          refine zai (gd_t (b := true) rfl rfl rfl) rfl rfl rfl (op_not rfl (ev2 rfl)) (by simp only [upd, za, zaa]; exact rfl) ?_
          refine zab rfl rfl rfl (op_and rfl (ev1 rfl) (ev3 rfl (fun _ => rfl))) ?_
          refine zab rfl rfl rfl (zac (.inl rfl) (ev1 rfl)) ?_
          refine zag (gd_f rfl rfl rfl) rfl rfl rfl (zap rfl fo115_0 (ev1 rfl)) ?_
          refine zag (gd_f rfl rfl rfl) rfl rfl rfl (zaq rfl tb3 (ev2 rfl) rfl rfl) ?_
          refine zag (gd_f rfl rfl rfl) rfl rfl rfl (zac (.inl rfl) (ev1 rfl)) ?_
          refine zag (gd_f rfl rfl rfl) rfl rfl rfl ((op_shr (3) rfl (ev2 rfl) (ev2 rfl) (fun _ => ⟨rfl, by decide⟩)).cast (d' := .val (.int .i64 5)) (by kernel_rfl)) ?_
          refine zag (gd_f rfl rfl rfl) rfl rfl rfl ((op_iand rfl (ev2 rfl) (ev1 rfl)).cast (d' := .val (.int .i64 1)) (by kernel_rfl)) ?_
          refine zag (gd_f rfl rfl rfl) rfl rfl rfl ((op_eql rfl (ev2 rfl) (ev1 rfl)).cast (d' := .val (.bool false)) (by kernel_rfl)) ?_
          refine zag (gd_f rfl rfl rfl) rfl rfl rfl (zac (.inl rfl) (ev2 rfl)) ?_
          refine zag (gd_tt rfl rfl rfl) rfl rfl rfl (zap rfl fo122_2 (ev1 rfl)) ?_
          refine zag (gd_tt rfl rfl rfl) rfl rfl rfl (zaq rfl tb119 (ev2 rfl) rfl rfl) ?_
          refine zag (gd_tt rfl rfl rfl) rfl rfl rfl (zah [] [0] [] rfl (ev2 rfl) (ec (ev1 rfl) en) rfl rfl (blk3_d _) rfl rfl rfl rfl rfl rfl) ?_
          refine zag (gd_tt rfl rfl rfl) rfl rfl rfl (op_not rfl (ev2 rfl)) ?_
          refine zag (gd_f rfl rfl rfl) rfl rfl rfl ((op_and rfl (ev2 rfl) (ev2 rfl)).cast (d' := .val (.bool false)) (by rfl)) ?_
          refine zab rfl rfl rfl (op_or rfl (ev1 rfl) (ev3 rfl id)) ?_
          refine zae ?_
          refine dwp_cond rfl (fun c9 => ?_) (fun c9 => ?_)
          · refine zaf ?_
            refine zad ?_
            refine zab rfl rfl rfl (zac (.inr rfl) (ev1 rfl)) ?_
            refine zae ?_
            refine zan ?_
            refine kend0 (rs1 rfl (rv_t rfl)) rfl ?_
            rcases hk with hk | hk
            all_goals
              have hb : opB o = false := by
                unfold opB
                simp_all [mostK, errz, eqI_dec, errOr_z]
                all_goals (first | (intros; omega) | (intros; simp_all; done))
              rw [hb]
              rfl
          · refine zam ?_
            refine zad ?_
            refine zab rfl rfl rfl ((op_add' rfl (ev1 rfl) (ev1 rfl) (fun _ => IntWalk.i64_in _ (by omega))).cast (d' := .val (.int .i64 4)) (by kernel_rfl)) ?_
            refine zab rfl rfl rfl (zac (.inl rfl) (ev1 rfl)) ?_
            refine zae ?_
            refine dloop_step ?_
            refine zaf ?_
            refine zad ?_
            refine zab rfl rfl rfl ((op_lss rfl (ev1 rfl) (ev1 rfl)).cast (d' := .val (.bool true)) (by kernel_rfl)) ?_
            refine zae ?_
            refine zaf ?_
            refine dwp_if_t rfl (rfl) ?_
            refine zam ?_
            refine zaf ?_
            refine zat ?_
            refine zaf ?_
            refine zaj 1 (by simp only [holes, List.cons_append, List.nil_append]; exact rfl) ?_
            refine zad ?_
            refine zab rfl rfl rfl (zac (.inl rfl) (ev1 rfl)) ?_
            refine zab rfl rfl rfl (op_ixwr (4) rfl av123 (ev1 rfl) (ev1 rfl) (fun _ => rfl) (fun _ => by decide) (Nat.le_of_ble_eq_true rfl)) ?_
            refine zak rfl rfl rfl (zao 6 rfl zr122 rfl) (by simp only [upd, za, zaa]; exact rfl) ?_
            refine zab rfl rfl rfl (zac (.inr rfl) (ev1 rfl)) ?_
            refine walk_s rfl rfl (op_stam rfl tb122 (ev1 rfl) (ev1 rfl) rfl rfl rfl rfl) (by simp only [upd, za, zaa]; exact rfl) ?_
            refine zae ?_
            refine zaf ?_
            refine zad ?_
            refine zab rfl rfl rfl (zap rfl fo115_0 (ev1 rfl)) ?_
            refine zab rfl rfl rfl (zaq rfl tb3 (ev1 rfl) rfl rfl) ?_
            refine zab rfl rfl rfl (zac (.inl rfl) (ev1 rfl)) ?_
            refine zab rfl rfl rfl ((op_shr (4) rfl (ev1 rfl) (ev1 rfl) (fun _ => ⟨rfl, by decide⟩)).cast (d' := .val (.int .i64 2)) (by kernel_rfl)) ?_
            refine zab rfl rfl rfl ((op_iand rfl (ev1 rfl) (ev1 rfl)).cast (d' := .val (.int .i64 0)) (by kernel_rfl)) ?_
            refine zab rfl rfl rfl ((op_eql rfl (ev1 rfl) (ev1 rfl)).cast (d' := .val (.bool false)) (by kernel_rfl)) ?_
            refine zab rfl rfl rfl (zac (.inl rfl) (ev1 rfl)) ?_
            refine zag (gd_t (b := false) rfl rfl rfl) rfl rfl rfl (zas (d := .junk)) ?_
            refine zag (gd_t (b := false) rfl rfl rfl) rfl rfl rfl (zas (d := .junk)) ?_
            refine zag (gd_t (b := false) rfl rfl rfl) rfl rfl rfl (zas (d := .junk)) ?_
            refine zag (gd_t (b := false) rfl rfl rfl) rfl rfl rfl (zas (d := .val (.bool false))) ?_
            refine zag (gd_t (b := false) rfl rfl rfl) rfl rfl rfl (zas (d := .val (.bool false))) ?_
            refine zab rfl rfl rfl ((op_and rfl (ev1 rfl) (ev3 rfl id)).cast (d' := .val (.bool false)) (by rfl)) ?_
            refine zab rfl rfl rfl (zac (.inl rfl) (ev1 rfl)) ?_
            refine zai (gd_f (b := false) rfl rfl rfl) rfl rfl rfl (zap rfl fo115_0 (ev1 rfl)) (by simp only [upd, za, zaa]; exact rfl) ?_
            refine zai (gd_f (b := false) rfl rfl rfl) rfl rfl rfl (zaq rfl tb3 (ev2 rfl) rfl rfl) (by simp only [upd, za, zaa]; exact rfl) ?_
            refine zai (gd_f (b := false) rfl rfl rfl) rfl rfl rfl (zac (.inl rfl) (ev1 rfl)) (by simp only [upd, za, zaa]; exact rfl) ?_
            refine zai (gd_f (b := false) rfl rfl rfl) rfl rfl rfl ((op_shr (4) rfl (ev2 rfl) (ev2 rfl) (fun _ => ⟨rfl, by decide⟩)).cast (d' := .val (.int .i64 2)) (by kernel_rfl)) (by simp only [upd, za, zaa]; exact rfl) ?_
            refine zai (gd_f (b := false) rfl rfl rfl) rfl rfl rfl ((op_iand rfl (ev2 rfl) (ev1 rfl)).cast (d' := .val (.int .i64 0)) (by kernel_rfl)) (by simp only [upd, za, zaa]; exact rfl) ?_
            refine zai (gd_f (b := false) rfl rfl rfl) rfl rfl rfl ((op_eql rfl (ev2 rfl) (ev1 rfl)).cast (d' := .val (.bool true)) (by kernel_rfl)) (by simp only [upd, za, zaa]; exact rfl) ?_
            refine zai (gd_f (b := false) rfl rfl rfl) rfl rfl rfl (zac (.inl rfl) (ev2 rfl)) (by simp only [upd, za, zaa]; exact rfl) ?_
            refine zai (gd_tt (g := true) (b := true) rfl rfl rfl) rfl rfl rfl (zap rfl fo122_2 (ev1 rfl)) (by simp only [upd, za, zaa]; exact rfl) ?_
            refine zai (gd_tt (g := true) (b := true) rfl rfl rfl) rfl rfl rfl (zaq rfl tb119 (ev2 rfl) rfl rfl) (by simp only [upd, za, zaa]; exact rfl) ?_
            refine zai (gd_tt (g := true) (b := true) rfl rfl rfl) rfl rfl rfl (zah [] [0] [] rfl (ev2 rfl) (ec (ev1 rfl) en) rfl rfl (blk4_d _) rfl rfl rfl rfl rfl rfl) (by simp only [upd, za, zaa]; exact rfl) ?_
            refine zai (gd_tt (g := true) (b := true) rfl rfl rfl) rfl rfl rfl (op_not rfl (ev2 rfl)) (by simp only [upd, za, zaa]; exact rfl) ?_
            refine zai (gd_f (b := false) rfl rfl rfl) rfl rfl rfl (op_and rfl (ev2 rfl) (ev3 rfl (fun _ => rfl))) (by simp only [upd, za, zaa]; exact rfl) ?_
            refine zab rfl rfl rfl (op_or rfl (ev1 rfl) (ev3 rfl (fun _ => rfl))) ?_
            refine zae ?_
            refine dwp_cond rfl (fun c11 => ?_) (fun c11 => ?_)
            · refine zaf ?_
              refine zad ?_
              refine zab rfl rfl rfl (zac (.inr rfl) (ev1 rfl)) ?_
              refine zae ?_
              refine zan ?_
              refine kend0 (rs1 rfl (rv_t rfl)) rfl ?_
              rcases hk with hk | hk
              all_goals
                have hb : opB o = false := by
                  unfold opB
                  simp_all [mostK, errz, eqI_dec, errOr_z]
                  all_goals (first | (intros; omega) | (intros; simp_all; done))
                rw [hb]
                rfl
            · refine zam ?_
              refine zad ?_
              refine zab rfl rfl rfl ((op_add' rfl (ev1 rfl) (ev1 rfl) (fun _ => IntWalk.i64_in _ (by omega))).cast (d' := .val (.int .i64 5)) (by kernel_rfl)) ?_
              refine zab rfl rfl rfl (zac (.inl rfl) (ev1 rfl)) ?_
              refine zae ?_
              refine dloop_step ?_
              refine zaf ?_
              refine zad ?_
              refine zab rfl rfl rfl ((op_lss rfl (ev1 rfl) (ev1 rfl)).cast (d' := .val (.bool true)) (by kernel_rfl)) ?_
              refine zae ?_
              refine zaf ?_
              refine dwp_if_t rfl (rfl) ?_
              refine zam ?_
              refine zaf ?_
              refine zat ?_
              refine zaf ?_
              refine zaj 1 (by simp only [holes, List.cons_append, List.nil_append]; exact rfl) ?_
              refine zad ?_
              refine zab rfl rfl rfl (zac (.inl rfl) (ev1 rfl)) ?_
              refine zab rfl rfl rfl (op_ixwr (5) rfl av123 (ev1 rfl) (ev1 rfl) (fun _ => rfl) (fun _ => by decide) (Nat.le_of_ble_eq_true rfl)) ?_
              refine zak rfl rfl rfl (zao 7 rfl zr122 rfl) (by simp only [upd, za, zaa]; exact rfl) ?_
              refine zab rfl rfl rfl (zac (.inr rfl) (ev1 rfl)) ?_
              refine walk_s rfl rfl (op_stam rfl tb122 (ev1 rfl) (ev1 rfl) rfl rfl rfl rfl) (by simp only [upd, za, zaa]; exact rfl) ?_
              refine zae ?_
              refine zaf ?_
              refine zad ?_
              refine zab rfl rfl rfl (zap rfl fo115_0 (ev1 rfl)) ?_
              refine zab rfl rfl rfl (zaq rfl tb3 (ev1 rfl) rfl rfl) ?_
              refine zab rfl rfl rfl (zac (.inl rfl) (ev1 rfl)) ?_
              refine zab rfl rfl rfl ((op_shr (5) rfl (ev1 rfl) (ev1 rfl) (fun _ => ⟨rfl, by decide⟩)).cast (d' := .val (.int .i64 1)) (by kernel_rfl)) ?_
              refine zab rfl rfl rfl ((op_iand rfl (ev1 rfl) (ev1 rfl)).cast (d' := .val (.int .i64 1)) (by kernel_rfl)) ?_
              refine zab rfl rfl rfl ((op_eql rfl (ev1 rfl) (ev1 rfl)).cast (d' := .val (.bool true)) (by kernel_rfl)) ?_
              refine zab rfl rfl rfl (zac (.inl rfl) (ev1 rfl)) ?_
              refine zai (gd_t (b := true) rfl rfl rfl) rfl rfl rfl (zap rfl fo122_1 (ev1 rfl)) (by simp only [upd, za, zaa]; exact rfl) ?_
              refine zai (gd_t (b := true) rfl rfl rfl) rfl rfl rfl (zaq rfl tb118 (ev2 rfl) rfl rfl) (by simp only [upd, za, zaa]; exact rfl) ?_
              refine zai (gd_t (b := true) rfl rfl rfl) rfl rfl rfl (op_ldmw rfl tb115 (ev1 rfl) rfl rfl) (by simp only [upd, za, zaa]; exact rfl) ?_
              refine zai (gd_t (b := true) rfl rfl rfl) rfl rfl rfl (zah [] [0] [] rfl (ev2 rfl) (ec (ev2 rfl) (ec (ev1 rfl) en)) rfl rfl (fit5_d _ _ _ _ _) rfl rfl rfl rfl rfl rfl) (by simp only [upd, za, zaa]; exact rfl) ?_
              refine zai (gd_t (b := true) rfl rfl rfl) rfl rfl rfl (op_not rfl (ev2 rfl)) (by simp only [upd, za, zaa]; exact rfl) ?_
              refine zab rfl rfl rfl (op_and rfl (ev1 rfl) (ev3 rfl (fun _ => rfl))) ?_
              refine zab rfl rfl rfl (zac (.inl rfl) (ev1 rfl)) ?_
              refine zag (gd_f rfl rfl rfl) rfl rfl rfl (zap rfl fo115_0 (ev1 rfl)) ?_
              refine zag (gd_f rfl rfl rfl) rfl rfl rfl (zaq rfl tb3 (ev2 rfl) rfl rfl) ?_
              refine zag (gd_f rfl rfl rfl) rfl rfl rfl (zac (.inl rfl) (ev1 rfl)) ?_
              refine zag (gd_f rfl rfl rfl) rfl rfl rfl ((op_shr (5) rfl (ev2 rfl) (ev2 rfl) (fun _ => ⟨rfl, by decide⟩)).cast (d' := .val (.int .i64 1)) (by kernel_rfl)) ?_
              refine zag (gd_f rfl rfl rfl) rfl rfl rfl ((op_iand rfl (ev2 rfl) (ev1 rfl)).cast (d' := .val (.int .i64 1)) (by kernel_rfl)) ?_
              refine zag (gd_f rfl rfl rfl) rfl rfl rfl ((op_eql rfl (ev2 rfl) (ev1 rfl)).cast (d' := .val (.bool false)) (by kernel_rfl)) ?_
              refine zag (gd_f rfl rfl rfl) rfl rfl rfl (zac (.inl rfl) (ev2 rfl)) ?_
              refine zag (gd_tt rfl rfl rfl) rfl rfl rfl (zap rfl fo122_2 (ev1 rfl)) ?_
              refine zag (gd_tt rfl rfl rfl) rfl rfl rfl (zaq rfl tb119 (ev2 rfl) rfl rfl) ?_
              refine zag (gd_tt rfl rfl rfl) rfl rfl rfl (zah [] [0] [] rfl (ev2 rfl) (ec (ev1 rfl) en) rfl rfl (blk5_d _) rfl rfl rfl rfl rfl rfl) ?_
              refine zag (gd_tt rfl rfl rfl) rfl rfl rfl (op_not rfl (ev2 rfl)) ?_
              refine zag (gd_f rfl rfl rfl) rfl rfl rfl ((op_and rfl (ev2 rfl) (ev2 rfl)).cast (d' := .val (.bool false)) (by rfl)) ?_
              refine zab rfl rfl rfl (op_or rfl (ev1 rfl) (ev3 rfl id)) ?_
              refine zae ?_
              refine dwp_cond rfl (fun c13 => ?_) (fun c13 => ?_)
              · refine zaf ?_
                refine zad ?_
                refine zab rfl rfl rfl (zac (.inr rfl) (ev1 rfl)) ?_
                refine zae ?_
                refine zan ?_
                refine kend0 (rs1 rfl (rv_t rfl)) rfl ?_
                rcases hk with hk | hk
                all_goals
                  have hb : opB o = false := by
                    unfold opB
                    simp_all [mostK, errz, eqI_dec, errOr_z]
                    all_goals (first | (intros; omega) | (intros; simp_all; done))
                  rw [hb]
                  rfl
              · refine zam ?_
                refine zad ?_
                refine zab rfl rfl rfl ((op_add' rfl (ev1 rfl) (ev1 rfl) (fun _ => IntWalk.i64_in _ (by omega))).cast (d' := .val (.int .i64 6)) (by kernel_rfl)) ?_
                refine zab rfl rfl rfl (zac (.inl rfl) (ev1 rfl)) ?_
                refine zae ?_
                refine dloop_step ?_
                refine zaf ?_
                refine zad ?_
                refine zab rfl rfl rfl ((op_lss rfl (ev1 rfl) (ev1 rfl)).cast (d' := .val (.bool true)) (by kernel_rfl)) ?_
                refine zae ?_
                refine zaf ?_
                refine dwp_if_t rfl (rfl) ?_
                refine zam ?_
                refine zaf ?_
                refine zat ?_
                refine zaf ?_
                refine zaj 1 (by simp only [holes, List.cons_append, List.nil_append]; exact rfl) ?_
                refine zad ?_
                refine zab rfl rfl rfl (zac (.inl rfl) (ev1 rfl)) ?_
                refine zab rfl rfl rfl (op_ixwr (6) rfl av123 (ev1 rfl) (ev1 rfl) (fun _ => rfl) (fun _ => by decide) (Nat.le_of_ble_eq_true rfl)) ?_
                refine zak rfl rfl rfl (zao 8 rfl zr122 rfl) (by simp only [upd, za, zaa]; exact rfl) ?_
                refine zab rfl rfl rfl (zac (.inr rfl) (ev1 rfl)) ?_
                refine walk_s rfl rfl (op_stam rfl tb122 (ev1 rfl) (ev1 rfl) rfl rfl rfl rfl) (by simp only [upd, za, zaa]; exact rfl) ?_
                refine zae ?_
                refine zaf ?_
                refine zad ?_
                refine zab rfl rfl rfl (zap rfl fo115_0 (ev1 rfl)) ?_
                refine zab rfl rfl rfl (zaq rfl tb3 (ev1 rfl) rfl rfl) ?_
                refine zab rfl rfl rfl (zac (.inl rfl) (ev1 rfl)) ?_
                refine zab rfl rfl rfl ((op_shr (6) rfl (ev1 rfl) (ev1 rfl) (fun _ => ⟨rfl, by decide⟩)).cast (d' := .val (.int .i64 0)) (by kernel_rfl)) ?_
                refine zab rfl rfl rfl ((op_iand rfl (ev1 rfl) (ev1 rfl)).cast (d' := .val (.int .i64 0)) (by kernel_rfl)) ?_
                refine zab rfl rfl rfl ((op_eql rfl (ev1 rfl) (ev1 rfl)).cast (d' := .val (.bool false)) (by kernel_rfl)) ?_
                refine zab rfl rfl rfl (zac (.inl rfl) (ev1 rfl)) ?_
                refine zag (gd_t (b := false) rfl rfl rfl) rfl rfl rfl (zas (d := .junk)) ?_
                refine zag (gd_t (b := false) rfl rfl rfl) rfl rfl rfl (zas (d := .junk)) ?_
                refine zag (gd_t (b := false) rfl rfl rfl) rfl rfl rfl (zas (d := .junk)) ?_
                refine zag (gd_t (b := false) rfl rfl rfl) rfl rfl rfl (zas (d := .val (.bool false))) ?_
                refine zag (gd_t (b := false) rfl rfl rfl) rfl rfl rfl (zas (d := .val (.bool false))) ?_
                refine zab rfl rfl rfl ((op_and rfl (ev1 rfl) (ev3 rfl id)).cast (d' := .val (.bool false)) (by rfl)) ?_
                refine zab rfl rfl rfl (zac (.inl rfl) (ev1 rfl)) ?_
                refine zai (gd_f (b := false) rfl rfl rfl) rfl rfl rfl (zap rfl fo115_0 (ev1 rfl)) (by simp only [upd, za, zaa]; exact rfl) ?_
                refine zai (gd_f (b := false) rfl rfl rfl) rfl rfl rfl (zaq rfl tb3 (ev2 rfl) rfl rfl) (by simp only [upd, za, zaa]; exact rfl) ?_
                refine zai (gd_f (b := false) rfl rfl rfl) rfl rfl rfl (zac (.inl rfl) (ev1 rfl)) (by simp only [upd, za, zaa]; exact rfl) ?_
                refine zai (gd_f (b := false) rfl rfl rfl) rfl rfl rfl ((op_shr (6) rfl (ev2 rfl) (ev2 rfl) (fun _ => ⟨rfl, by decide⟩)).cast (d' := .val (.int .i64 0)) (by kernel_rfl)) (by simp only [upd, za, zaa]; exact rfl) ?_
                refine zai (gd_f (b := false) rfl rfl rfl) rfl rfl rfl ((op_iand rfl (ev2 rfl) (ev1 rfl)).cast (d' := .val (.int .i64 0)) (by kernel_rfl)) (by simp only [upd, za, zaa]; exact rfl) ?_
                refine zai (gd_f (b := false) rfl rfl rfl) rfl rfl rfl ((op_eql rfl (ev2 rfl) (ev1 rfl)).cast (d' := .val (.bool true)) (by kernel_rfl)) (by simp only [upd, za, zaa]; exact rfl) ?_
                refine zai (gd_f (b := false) rfl rfl rfl) rfl rfl rfl (zac (.inl rfl) (ev2 rfl)) (by simp only [upd, za, zaa]; exact rfl) ?_
                refine zai (gd_tt (g := true) (b := true) rfl rfl rfl) rfl rfl rfl (zap rfl fo122_2 (ev1 rfl)) (by simp only [upd, za, zaa]; exact rfl) ?_
                refine zai (gd_tt (g := true) (b := true) rfl rfl rfl) rfl rfl rfl (zaq rfl tb119 (ev2 rfl) rfl rfl) (by simp only [upd, za, zaa]; exact rfl) ?_
                refine zai (gd_tt (g := true) (b := true) rfl rfl rfl) rfl rfl rfl (zah [] [0] [] rfl (ev2 rfl) (ec (ev1 rfl) en) rfl rfl (blk6_d _) rfl rfl rfl rfl rfl rfl) (by simp only [upd, za, zaa]; exact rfl) ?_
                refine zai (gd_tt (g := true) (b := true) rfl rfl rfl) rfl rfl rfl (op_not rfl (ev2 rfl)) (by simp only [upd, za, zaa]; exact rfl) ?_
                refine zai (gd_f (b := false) rfl rfl rfl) rfl rfl rfl (op_and rfl (ev2 rfl) (ev3 rfl (fun _ => rfl))) (by simp only [upd, za, zaa]; exact rfl) ?_
                refine zab rfl rfl rfl (op_or rfl (ev1 rfl) (ev3 rfl (fun _ => rfl))) ?_
                refine zae ?_
                refine dwp_cond rfl (fun c15 => ?_) (fun c15 => ?_)
                · refine zaf ?_
                  refine zad ?_
                  refine zab rfl rfl rfl (zac (.inr rfl) (ev1 rfl)) ?_
                  refine zae ?_
                  refine zan ?_
                  refine kend0 (rs1 rfl (rv_t rfl)) rfl ?_
                  rcases hk with hk | hk
                  all_goals
                    have hb : opB o = false := by
                      unfold opB
                      simp_all [mostK, errz, eqI_dec, errOr_z]
                      all_goals (first | (intros; omega) | (intros; simp_all; done))
                    rw [hb]
                    rfl
                · refine zam ?_
                  refine zad ?_
                  refine zab rfl rfl rfl ((op_add' rfl (ev1 rfl) (ev1 rfl) (fun _ => IntWalk.i64_in _ (by omega))).cast (d' := .val (.int .i64 7)) (by kernel_rfl)) ?_
                  refine zab rfl rfl rfl (zac (.inl rfl) (ev1 rfl)) ?_
                  refine zae ?_
                  refine dloop_step ?_
                  refine zaf ?_
                  refine zad ?_
                  refine zab rfl rfl rfl ((op_lss rfl (ev1 rfl) (ev1 rfl)).cast (d' := .val (.bool true)) (by kernel_rfl)) ?_
                  refine zae ?_
                  refine zaf ?_
                  refine dwp_if_t rfl (rfl) ?_
                  refine zam ?_
                  refine zaf ?_
                  refine zat ?_
                  refine zaf ?_
                  refine zaj 1 (by simp only [holes, List.cons_append, List.nil_append]; exact rfl) ?_
                  refine zad ?_
                  refine zab rfl rfl rfl (zac (.inl rfl) (ev1 rfl)) ?_
                  refine zab rfl rfl rfl (op_ixwr (7) rfl av123 (ev1 rfl) (ev1 rfl) (fun _ => rfl) (fun _ => by decide) (Nat.le_of_ble_eq_true rfl)) ?_
                  refine zak rfl rfl rfl (zao 9 rfl zr122 rfl) (by simp only [upd, za, zaa]; exact rfl) ?_
                  refine zab rfl rfl rfl (zac (.inr rfl) (ev1 rfl)) ?_
                  refine walk_s rfl rfl (op_stam rfl tb122 (ev1 rfl) (ev1 rfl) rfl rfl rfl rfl) (by simp only [upd, za, zaa]; exact rfl) ?_
                  refine zae ?_
                  refine zaf ?_
                  refine zad ?_
                  refine zab rfl rfl rfl (zap rfl fo115_0 (ev1 rfl)) ?_
                  refine zab rfl rfl rfl (zaq rfl tb3 (ev1 rfl) rfl rfl) ?_
                  refine zab rfl rfl rfl (zac (.inl rfl) (ev1 rfl)) ?_
                  refine zab rfl rfl rfl ((op_shr (7) rfl (ev1 rfl) (ev1 rfl) (fun _ => ⟨rfl, by decide⟩)).cast (d' := .val (.int .i64 0)) (by kernel_rfl)) ?_
                  refine zab rfl rfl rfl ((op_iand rfl (ev1 rfl) (ev1 rfl)).cast (d' := .val (.int .i64 0)) (by kernel_rfl)) ?_
                  refine zab rfl rfl rfl ((op_eql rfl (ev1 rfl) (ev1 rfl)).cast (d' := .val (.bool false)) (by kernel_rfl)) ?_
                  refine zab rfl rfl rfl (zac (.inl rfl) (ev1 rfl)) ?_
                  refine zag (gd_t (b := false) rfl rfl rfl) rfl rfl rfl (zas (d := .junk)) ?_
                  refine zag (gd_t (b := false) rfl rfl rfl) rfl rfl rfl (zas (d := .junk)) ?_
                  refine zag (gd_t (b := false) rfl rfl rfl) rfl rfl rfl (zas (d := .junk)) ?_
                  refine zag (gd_t (b := false) rfl rfl rfl) rfl rfl rfl (zas (d := .val (.bool false))) ?_
                  refine zag (gd_t (b := false) rfl rfl rfl) rfl rfl rfl (zas (d := .val (.bool false))) ?_
                  refine zab rfl rfl rfl ((op_and rfl (ev1 rfl) (ev3 rfl id)).cast (d' := .val (.bool false)) (by rfl)) ?_
                  refine zab rfl rfl rfl (zac (.inl rfl) (ev1 rfl)) ?_
                  refine zai (gd_f (b := false) rfl rfl rfl) rfl rfl rfl (zap rfl fo115_0 (ev1 rfl)) (by simp only [upd, za, zaa]; exact rfl) ?_
                  refine zai (gd_f (b := false) rfl rfl rfl) rfl rfl rfl (zaq rfl tb3 (ev2 rfl) rfl rfl) (by simp only [upd, za, zaa]; exact rfl) ?_
                  refine zai (gd_f (b := false) rfl rfl rfl) rfl rfl rfl (zac (.inl rfl) (ev1 rfl)) (by simp only [upd, za, zaa]; exact rfl) ?_
                  refine zai (gd_f (b := false) rfl rfl rfl) rfl rfl rfl ((op_shr (7) rfl (ev2 rfl) (ev2 rfl) (fun _ => ⟨rfl, by decide⟩)).cast (d' := .val (.int .i64 0)) (by kernel_rfl)) (by simp only [upd, za, zaa]; exact rfl) ?_
                  refine zai (gd_f (b := false) rfl rfl rfl) rfl rfl rfl ((op_iand rfl (ev2 rfl) (ev1 rfl)).cast (d' := .val (.int .i64 0)) (by kernel_rfl)) (by simp only [upd, za, zaa]; exact rfl) ?_
                  refine zai (gd_f (b := false) rfl rfl rfl) rfl rfl rfl ((op_eql rfl (ev2 rfl) (ev1 rfl)).cast (d' := .val (.bool true)) (by kernel_rfl)) (by simp only [upd, za, zaa]; exact rfl) ?_
                  refine zai (gd_f (b := false) rfl rfl rfl) rfl rfl rfl (zac (.inl rfl) (ev2 rfl)) (by simp only [upd, za, zaa]; exact rfl) ?_
                  refine zai (gd_tt (g := true) (b := true) rfl rfl rfl) rfl rfl rfl (zap rfl fo122_2 (ev1 rfl)) (by simp only [upd, za, zaa]; exact rfl) ?_
                  refine zai (gd_tt (g := true) (b := true) rfl rfl rfl) rfl rfl rfl (zaq rfl tb119 (ev2 rfl) rfl rfl) (by simp only [upd, za, zaa]; exact rfl) ?_
                  refine zai (gd_tt (g := true) (b := true) rfl rfl rfl) rfl rfl rfl (zah [] [0] [] rfl (ev2 rfl) (ec (ev1 rfl) en) rfl rfl (blk7_d _) rfl rfl rfl rfl rfl rfl) (by simp only [upd, za, zaa]; exact rfl) ?_
                  refine zai (gd_tt (g := true) (b := true) rfl rfl rfl) rfl rfl rfl (op_not rfl (ev2 rfl)) (by simp only [upd, za, zaa]; exact rfl) ?_
                  refine zai (gd_f (b := false) rfl rfl rfl) rfl rfl rfl (op_and rfl (ev2 rfl) (ev3 rfl (fun _ => rfl))) (by simp only [upd, za, zaa]; exact rfl) ?_
                  refine zab rfl rfl rfl (op_or rfl (ev1 rfl) (ev3 rfl (fun _ => rfl))) ?_
                  refine zae ?_
                  refine dwp_cond rfl (fun c17 => ?_) (fun c17 => ?_)
                  · refine zaf ?_
                    refine zad ?_
                    refine zab rfl rfl rfl (zac (.inr rfl) (ev1 rfl)) ?_
                    refine zae ?_
                    refine zan ?_
                    refine kend0 (rs1 rfl (rv_t rfl)) rfl ?_
                    rcases hk with hk | hk
                    all_goals
                      have hb : opB o = false := by
                        unfold opB
                        simp_all [mostK, errz, eqI_dec, errOr_z]
                        all_goals (first | (intros; omega) | (intros; simp_all; done))
                      rw [hb]
                      rfl
                  · refine zam ?_
                    refine zad ?_
                    refine zab rfl rfl rfl ((op_add' rfl (ev1 rfl) (ev1 rfl) (fun _ => IntWalk.i64_in _ (by omega))).cast (d' := .val (.int .i64 8)) (by kernel_rfl)) ?_
                    refine zab rfl rfl rfl (zac (.inl rfl) (ev1 rfl)) ?_
                    refine zae ?_
                    refine dloop_step ?_
                    refine zaf ?_
                    refine zad ?_
                    refine zab rfl rfl rfl ((op_lss rfl (ev1 rfl) (ev1 rfl)).cast (d' := .val (.bool false)) (by kernel_rfl)) ?_
                    refine zae ?_
                    refine zaf ?_
                    refine dwp_if_f rfl (rfl) ?_
                    refine dwp_exit ?_
                    refine zaf ?_
                    refine zad ?_
                    refine zab rfl rfl rfl (zac (.inr rfl) (ev1 rfl)) ?_
                    refine zae ?_
                    refine zan ?_
                    refine kend0 (rs1 rfl (rv_t rfl)) rfl ?_
                    rcases hk with hk | hk
                    all_goals
                      have hb : opB o = true := by
                        unfold opB
                        simp_all [mostK, errz, eqI_dec, errOr_z]
                        all_goals (first | (intros; omega) | (intros; simp_all; done))
                      rw [hb]
                      rfl
set_option maxRecDepth 4000 in
set_option maxHeartbeats 1000000 in
theorem opc_c5 (o : OpM) (pf : FuncId) (hk : o.kd = 5) (hK : DFun Tryz.prog 62 [.val (.int .i64 o.kd)] [] (.tup [.agg [iD 51, iD 1020, .fn (.func 141) [] [], .fn (.func 142) [] []], .val (.bool true)]) []) : DFun Tryz.prog 29 [.agg (opD o)] [] (.val (.int .i64 (errOr (opB o) 220))) [] := by
  refine zal (N := 54) 0 (by kernel_rfl) Tryz.func29 rfl rfl rfl (by simp only [fr0, Nat.zero_add, Nat.reduceAdd]; exact rfl) rfl fun s0 hs0 => ?_
  refine zaf ?_
  refine zaj 1 (by simp only [holes, List.cons_append, List.nil_append]; exact rfl) ?_
  refine zad ?_
  refine zak rfl rfl rfl (op_boxam 0 rfl (ev1 rfl) rfl) (by simp only [upd, za, zaa]; exact rfl) ?_
  refine zab rfl rfl rfl (zac (.inr rfl) (ev1 rfl)) ?_
  refine zae ?_
  refine zaf ?_
  refine zaj 1 (by simp only [holes, List.cons_append, List.nil_append]; exact rfl) ?_
  refine zad ?_
  refine zab rfl rfl rfl (zap rfl fo47_1 (ev1 rfl)) ?_
  refine zab rfl rfl rfl (zaq rfl tb3 (ev1 rfl) rfl rfl) ?_
  refine zab rfl rfl rfl (zah [] [] [] rfl (ev1 rfl) (ec (ev1 rfl) en) rfl rfl (hK) rfl rfl rfl rfl rfl rfl) ?_
  refine zab rfl rfl rfl (zac (.inl rfl) (ev1 rfl)) ?_
  refine zab rfl rfl rfl (zar rfl (ev1 rfl) rfl) ?_
  refine zab rfl rfl rfl (zar rfl (ev1 rfl) rfl) ?_
  refine zak rfl rfl rfl (zao 1 rfl zr115 rfl) (by simp only [upd, za, zaa]; exact rfl) ?_
  refine walk_s rfl rfl (op_stam rfl tb115 (ev1 rfl) (ev1 rfl) rfl rfl rfl rfl) (by simp only [upd, za, zaa]; exact rfl) ?_
  refine zab rfl rfl rfl (zac (.inr rfl) (ev1 rfl)) ?_
  refine zae ?_
  refine zaf ?_
  refine zaf ?_
  refine zad ?_
  refine zab rfl rfl rfl (zac (.inl rfl) (ev1 rfl)) ?_
  refine zab rfl rfl rfl ((op_not rfl (ev1 rfl)).cast (d' := .val (.bool false)) (by kernel_rfl)) ?_
  refine zab rfl rfl rfl (zac (.inl rfl) (ev1 rfl)) ?_
  refine zai (gd_f (b := false) rfl rfl rfl) rfl rfl rfl (zap rfl fo47_0 (ev1 rfl)) (by simp only [upd, za, zaa]; exact rfl) ?_
  refine zai (gd_f (b := false) rfl rfl rfl) rfl rfl rfl (op_ldmv (R := [_, _, _]) rfl tb29 (ev2 rfl) rfl rfl rfl) (by simp only [upd, za, zaa]; exact rfl) ?_
  refine zai (gd_f (b := false) rfl rfl rfl) rfl rfl rfl (zah [] [] [] rfl (ev1 rfl) (ec (ev2 rfl) en) rfl rfl (idCheck_d _) rfl rfl rfl rfl rfl rfl) (by simp only [upd, za, zaa]; exact rfl) ?_
  refine zai (gd_f (b := false) rfl rfl rfl) rfl rfl rfl (op_neq rfl (ev2 rfl) (ev1 rfl)) (by simp only [upd, za, zaa]; exact rfl) ?_
  refine zab rfl rfl rfl (op_or rfl (ev1 rfl) (ev3 rfl (fun _ => rfl))) ?_
  refine zae ?_
  refine dwp_cond rfl (fun c1 => ?_) (fun c1 => ?_)
  · refine zaf ?_
    refine zad ?_
    refine zab rfl rfl rfl (zac (.inr rfl) (ev1 rfl)) ?_
    refine zae ?_
    refine zan ?_
    refine kend0 (rs1 rfl (rv_t rfl)) rfl ?_
    have hb : opB o = false := by
      unfold opB
      simp_all [mostK, errz, eqI_dec, errOr_z]
      all_goals (first | (intros; omega) | (intros; simp_all; done))
    rw [hb]
    rfl
  · refine zam ?_
    refine zaf ?_
    refine zaf ?_
    refine zad ?_
    refine zab rfl rfl rfl (zah [] [] [] rfl (ev1 rfl) en rfl rfl (fields_d) rfl rfl rfl rfl rfl rfl) ?_
    refine zab rfl rfl rfl (zac (.inl rfl) (ev1 rfl)) ?_
    refine zae ?_
    refine zat ?_
    refine dwp_dloop (dloop_step ?_)
    refine zaf ?_
    refine zad ?_
    refine zab rfl rfl rfl ((op_lss rfl (ev1 rfl) (ev1 rfl)).cast (d' := .val (.bool true)) (by kernel_rfl)) ?_
    refine zae ?_
    refine zaf ?_
    refine dwp_if_t rfl (rfl) ?_
    refine zam ?_
    refine zaf ?_
    refine zat ?_
    refine zaf ?_
    refine zaj 1 (by simp only [holes, List.cons_append, List.nil_append]; exact rfl) ?_
    refine zad ?_
    refine zab rfl rfl rfl (zac (.inl rfl) (ev1 rfl)) ?_
    refine zab rfl rfl rfl (op_ixwr (0) rfl av123 (ev1 rfl) (ev1 rfl) (fun _ => rfl) (fun _ => by decide) (Nat.le_of_ble_eq_true rfl)) ?_
    refine zak rfl rfl rfl (zao 2 rfl zr122 rfl) (by simp only [upd, za, zaa]; exact rfl) ?_
    refine zab rfl rfl rfl (zac (.inr rfl) (ev1 rfl)) ?_
    refine walk_s rfl rfl (op_stam rfl tb122 (ev1 rfl) (ev1 rfl) rfl rfl rfl rfl) (by simp only [upd, za, zaa]; exact rfl) ?_
    refine zae ?_
    refine zaf ?_
    refine zad ?_
    refine zab rfl rfl rfl (zap rfl fo115_0 (ev1 rfl)) ?_
    refine zab rfl rfl rfl (zaq rfl tb3 (ev1 rfl) rfl rfl) ?_
    refine zab rfl rfl rfl (zac (.inl rfl) (ev1 rfl)) ?_
    refine zab rfl rfl rfl ((op_shr (0) rfl (ev1 rfl) (ev1 rfl) (fun _ => ⟨rfl, by decide⟩)).cast (d' := .val (.int .i64 51)) (by kernel_rfl)) ?_
    refine zab rfl rfl rfl ((op_iand rfl (ev1 rfl) (ev1 rfl)).cast (d' := .val (.int .i64 1)) (by kernel_rfl)) ?_
    refine zab rfl rfl rfl ((op_eql rfl (ev1 rfl) (ev1 rfl)).cast (d' := .val (.bool true)) (by kernel_rfl)) ?_
    refine zab rfl rfl rfl (zac (.inl rfl) (ev1 rfl)) ?_
    refine zai (gd_t (b := true) rfl rfl rfl) rfl rfl rfl (zap rfl fo122_1 (ev1 rfl)) (by simp only [upd, za, zaa]; exact rfl) ?_
    refine zai (gd_t (b := true) rfl rfl rfl) rfl rfl rfl (zaq rfl tb118 (ev2 rfl) rfl rfl) (by simp only [upd, za, zaa]; exact rfl) ?_
    refine zai (gd_t (b := true) rfl rfl rfl) rfl rfl rfl (op_ldmw rfl tb115 (ev1 rfl) rfl rfl) (by simp only [upd, za, zaa]; exact rfl) ?_
    refine zai (gd_t (b := true) rfl rfl rfl) rfl rfl rfl (zah [] [0] [] rfl (ev2 rfl) (ec (ev2 rfl) (ec (ev1 rfl) en)) rfl rfl (fit0_d _ _ _ _ _) rfl rfl rfl rfl rfl rfl) (by simp only [upd, za, zaa]; exact rfl) ?_
    refine zai (gd_t (b := true) rfl rfl rfl) rfl rfl rfl (op_not rfl (ev2 rfl)) (by simp only [upd, za, zaa]; exact rfl) ?_
    refine zab rfl rfl rfl (op_and rfl (ev1 rfl) (ev3 rfl (fun _ => rfl))) ?_
    refine zab rfl rfl rfl (zac (.inl rfl) (ev1 rfl)) ?_
    refine zag (gd_f rfl rfl rfl) rfl rfl rfl (zap rfl fo115_0 (ev1 rfl)) ?_
    refine zag (gd_f rfl rfl rfl) rfl rfl rfl (zaq rfl tb3 (ev2 rfl) rfl rfl) ?_
    refine zag (gd_f rfl rfl rfl) rfl rfl rfl (zac (.inl rfl) (ev1 rfl)) ?_
    refine zag (gd_f rfl rfl rfl) rfl rfl rfl ((op_shr (0) rfl (ev2 rfl) (ev2 rfl) (fun _ => ⟨rfl, by decide⟩)).cast (d' := .val (.int .i64 51)) (by kernel_rfl)) ?_
    refine zag (gd_f rfl rfl rfl) rfl rfl rfl ((op_iand rfl (ev2 rfl) (ev1 rfl)).cast (d' := .val (.int .i64 1)) (by kernel_rfl)) ?_
    refine zag (gd_f rfl rfl rfl) rfl rfl rfl ((op_eql rfl (ev2 rfl) (ev1 rfl)).cast (d' := .val (.bool false)) (by kernel_rfl)) ?_
    refine zag (gd_f rfl rfl rfl) rfl rfl rfl (zac (.inl rfl) (ev2 rfl)) ?_
    refine zag (gd_tt rfl rfl rfl) rfl rfl rfl (zap rfl fo122_2 (ev1 rfl)) ?_
    refine zag (gd_tt rfl rfl rfl) rfl rfl rfl (zaq rfl tb119 (ev2 rfl) rfl rfl) ?_
    refine zag (gd_tt rfl rfl rfl) rfl rfl rfl (zah [] [0] [] rfl (ev2 rfl) (ec (ev1 rfl) en) rfl rfl (blk0_d _) rfl rfl rfl rfl rfl rfl) ?_
    refine zag (gd_tt rfl rfl rfl) rfl rfl rfl (op_not rfl (ev2 rfl)) ?_
    refine zag (gd_f rfl rfl rfl) rfl rfl rfl ((op_and rfl (ev2 rfl) (ev2 rfl)).cast (d' := .val (.bool false)) (by rfl)) ?_
    refine zab rfl rfl rfl (op_or rfl (ev1 rfl) (ev3 rfl id)) ?_
    refine zae ?_
    refine dwp_cond rfl (fun c3 => ?_) (fun c3 => ?_)
    · refine zaf ?_
      refine zad ?_
      refine zab rfl rfl rfl (zac (.inr rfl) (ev1 rfl)) ?_
      refine zae ?_
      refine zan ?_
      refine kend0 (rs1 rfl (rv_t rfl)) rfl ?_
      have hb : opB o = false := by
        unfold opB
        simp_all [mostK, errz, eqI_dec, errOr_z]
        all_goals (first | (intros; omega) | (intros; simp_all; done))
      rw [hb]
      rfl
    · refine zam ?_
      refine zad ?_
      refine zab rfl rfl rfl ((op_add' rfl (ev1 rfl) (ev1 rfl) (fun _ => IntWalk.i64_in _ (by omega))).cast (d' := .val (.int .i64 1)) (by kernel_rfl)) ?_
      refine zab rfl rfl rfl (zac (.inl rfl) (ev1 rfl)) ?_
      refine zae ?_
      refine dloop_step ?_
      refine zaf ?_
      refine zad ?_
      refine zab rfl rfl rfl ((op_lss rfl (ev1 rfl) (ev1 rfl)).cast (d' := .val (.bool true)) (by kernel_rfl)) ?_
      refine zae ?_
      refine zaf ?_
      refine dwp_if_t rfl (rfl) ?_
      refine zam ?_
      refine zaf ?_
      refine zat ?_
      refine zaf ?_
      refine zaj 1 (by simp only [holes, List.cons_append, List.nil_append]; exact rfl) ?_
      refine zad ?_
      refine zab rfl rfl rfl (zac (.inl rfl) (ev1 rfl)) ?_
      refine zab rfl rfl rfl (op_ixwr (1) rfl av123 (ev1 rfl) (ev1 rfl) (fun _ => rfl) (fun _ => by decide) (Nat.le_of_ble_eq_true rfl)) ?_
      refine zak rfl rfl rfl (zao 3 rfl zr122 rfl) (by simp only [upd, za, zaa]; exact rfl) ?_
      refine zab rfl rfl rfl (zac (.inr rfl) (ev1 rfl)) ?_
      refine walk_s rfl rfl (op_stam rfl tb122 (ev1 rfl) (ev1 rfl) rfl rfl rfl rfl) (by simp only [upd, za, zaa]; exact rfl) ?_
      refine zae ?_
      refine zaf ?_
      refine zad ?_
      refine zab rfl rfl rfl (zap rfl fo115_0 (ev1 rfl)) ?_
      refine zab rfl rfl rfl (zaq rfl tb3 (ev1 rfl) rfl rfl) ?_
      refine zab rfl rfl rfl (zac (.inl rfl) (ev1 rfl)) ?_
      refine zab rfl rfl rfl ((op_shr (1) rfl (ev1 rfl) (ev1 rfl) (fun _ => ⟨rfl, by decide⟩)).cast (d' := .val (.int .i64 25)) (by kernel_rfl)) ?_
      refine zab rfl rfl rfl ((op_iand rfl (ev1 rfl) (ev1 rfl)).cast (d' := .val (.int .i64 1)) (by kernel_rfl)) ?_
      refine zab rfl rfl rfl ((op_eql rfl (ev1 rfl) (ev1 rfl)).cast (d' := .val (.bool true)) (by kernel_rfl)) ?_
      refine zab rfl rfl rfl (zac (.inl rfl) (ev1 rfl)) ?_
      refine zai (gd_t (b := true) rfl rfl rfl) rfl rfl rfl (zap rfl fo122_1 (ev1 rfl)) (by simp only [upd, za, zaa]; exact rfl) ?_
      refine zai (gd_t (b := true) rfl rfl rfl) rfl rfl rfl (zaq rfl tb118 (ev2 rfl) rfl rfl) (by simp only [upd, za, zaa]; exact rfl) ?_
      refine zai (gd_t (b := true) rfl rfl rfl) rfl rfl rfl (op_ldmw rfl tb115 (ev1 rfl) rfl rfl) (by simp only [upd, za, zaa]; exact rfl) ?_
      refine zai (gd_t (b := true) rfl rfl rfl) rfl rfl rfl (zah [] [0] [] rfl (ev2 rfl) (ec (ev2 rfl) (ec (ev1 rfl) en)) rfl rfl (fit1_d _ _ _ _ _) rfl rfl rfl rfl rfl rfl) (by simp only [upd, za, zaa]; exact rfl) ?_
      refine zai (gd_t (b := true) rfl rfl rfl) rfl rfl rfl (op_not rfl (ev2 rfl)) (by simp only [upd, za, zaa]; exact rfl) ?_
      refine zab rfl rfl rfl (op_and rfl (ev1 rfl) (ev3 rfl (fun _ => rfl))) ?_
      refine zab rfl rfl rfl (zac (.inl rfl) (ev1 rfl)) ?_
      refine zag (gd_f rfl rfl rfl) rfl rfl rfl (zap rfl fo115_0 (ev1 rfl)) ?_
      refine zag (gd_f rfl rfl rfl) rfl rfl rfl (zaq rfl tb3 (ev2 rfl) rfl rfl) ?_
      refine zag (gd_f rfl rfl rfl) rfl rfl rfl (zac (.inl rfl) (ev1 rfl)) ?_
      refine zag (gd_f rfl rfl rfl) rfl rfl rfl ((op_shr (1) rfl (ev2 rfl) (ev2 rfl) (fun _ => ⟨rfl, by decide⟩)).cast (d' := .val (.int .i64 25)) (by kernel_rfl)) ?_
      refine zag (gd_f rfl rfl rfl) rfl rfl rfl ((op_iand rfl (ev2 rfl) (ev1 rfl)).cast (d' := .val (.int .i64 1)) (by kernel_rfl)) ?_
      refine zag (gd_f rfl rfl rfl) rfl rfl rfl ((op_eql rfl (ev2 rfl) (ev1 rfl)).cast (d' := .val (.bool false)) (by kernel_rfl)) ?_
      refine zag (gd_f rfl rfl rfl) rfl rfl rfl (zac (.inl rfl) (ev2 rfl)) ?_
      refine zag (gd_tt rfl rfl rfl) rfl rfl rfl (zap rfl fo122_2 (ev1 rfl)) ?_
      refine zag (gd_tt rfl rfl rfl) rfl rfl rfl (zaq rfl tb119 (ev2 rfl) rfl rfl) ?_
      refine zag (gd_tt rfl rfl rfl) rfl rfl rfl (zah [] [0] [] rfl (ev2 rfl) (ec (ev1 rfl) en) rfl rfl (blk1_d _) rfl rfl rfl rfl rfl rfl) ?_
      refine zag (gd_tt rfl rfl rfl) rfl rfl rfl (op_not rfl (ev2 rfl)) ?_
      refine zag (gd_f rfl rfl rfl) rfl rfl rfl ((op_and rfl (ev2 rfl) (ev2 rfl)).cast (d' := .val (.bool false)) (by rfl)) ?_
      refine zab rfl rfl rfl (op_or rfl (ev1 rfl) (ev3 rfl id)) ?_
      refine zae ?_
      refine dwp_cond rfl (fun c5 => ?_) (fun c5 => ?_)
      · refine zaf ?_
        refine zad ?_
        refine zab rfl rfl rfl (zac (.inr rfl) (ev1 rfl)) ?_
        refine zae ?_
        refine zan ?_
        refine kend0 (rs1 rfl (rv_t rfl)) rfl ?_
        have hb : opB o = false := by
          unfold opB
          simp_all [mostK, errz, eqI_dec, errOr_z]
          all_goals (first | (intros; omega) | (intros; simp_all; done))
        rw [hb]
        rfl
      · refine zam ?_
        refine zad ?_
        refine zab rfl rfl rfl ((op_add' rfl (ev1 rfl) (ev1 rfl) (fun _ => IntWalk.i64_in _ (by omega))).cast (d' := .val (.int .i64 2)) (by kernel_rfl)) ?_
        refine zab rfl rfl rfl (zac (.inl rfl) (ev1 rfl)) ?_
        refine zae ?_
        refine dloop_step ?_
        refine zaf ?_
        refine zad ?_
        refine zab rfl rfl rfl ((op_lss rfl (ev1 rfl) (ev1 rfl)).cast (d' := .val (.bool true)) (by kernel_rfl)) ?_
        refine zae ?_
        refine zaf ?_
        refine dwp_if_t rfl (rfl) ?_
        refine zam ?_
        refine zaf ?_
        refine zat ?_
        refine zaf ?_
        refine zaj 1 (by simp only [holes, List.cons_append, List.nil_append]; exact rfl) ?_
        refine zad ?_
        refine zab rfl rfl rfl (zac (.inl rfl) (ev1 rfl)) ?_
        refine zab rfl rfl rfl (op_ixwr (2) rfl av123 (ev1 rfl) (ev1 rfl) (fun _ => rfl) (fun _ => by decide) (Nat.le_of_ble_eq_true rfl)) ?_
        refine zak rfl rfl rfl (zao 4 rfl zr122 rfl) (by simp only [upd, za, zaa]; exact rfl) ?_
        refine zab rfl rfl rfl (zac (.inr rfl) (ev1 rfl)) ?_
        refine walk_s rfl rfl (op_stam rfl tb122 (ev1 rfl) (ev1 rfl) rfl rfl rfl rfl) (by simp only [upd, za, zaa]; exact rfl) ?_
        refine zae ?_
        refine zaf ?_
        refine zad ?_
        refine zab rfl rfl rfl (zap rfl fo115_0 (ev1 rfl)) ?_
        refine zab rfl rfl rfl (zaq rfl tb3 (ev1 rfl) rfl rfl) ?_
        refine zab rfl rfl rfl (zac (.inl rfl) (ev1 rfl)) ?_
        refine zab rfl rfl rfl ((op_shr (2) rfl (ev1 rfl) (ev1 rfl) (fun _ => ⟨rfl, by decide⟩)).cast (d' := .val (.int .i64 12)) (by kernel_rfl)) ?_
        refine zab rfl rfl rfl ((op_iand rfl (ev1 rfl) (ev1 rfl)).cast (d' := .val (.int .i64 0)) (by kernel_rfl)) ?_
        refine zab rfl rfl rfl ((op_eql rfl (ev1 rfl) (ev1 rfl)).cast (d' := .val (.bool false)) (by kernel_rfl)) ?_
        refine zab rfl rfl rfl (zac (.inl rfl) (ev1 rfl)) ?_
        refine zag (gd_t (b := false) rfl rfl rfl) rfl rfl rfl (zas (d := .junk)) ?_
        refine zag (gd_t (b := false) rfl rfl rfl) rfl rfl rfl (zas (d := .junk)) ?_
        refine zag (gd_t (b := false) rfl rfl rfl) rfl rfl rfl (zas (d := .junk)) ?_
        refine zag (gd_t (b := false) rfl rfl rfl) rfl rfl rfl (zas (d := .val (.bool false))) ?_
        refine zag (gd_t (b := false) rfl rfl rfl) rfl rfl rfl (zas (d := .val (.bool false))) ?_
        refine zab rfl rfl rfl ((op_and rfl (ev1 rfl) (ev3 rfl id)).cast (d' := .val (.bool false)) (by rfl)) ?_
        refine zab rfl rfl rfl (zac (.inl rfl) (ev1 rfl)) ?_
        refine zai (gd_f (b := false) rfl rfl rfl) rfl rfl rfl (zap rfl fo115_0 (ev1 rfl)) (by simp only [upd, za, zaa]; exact rfl) ?_
        refine zai (gd_f (b := false) rfl rfl rfl) rfl rfl rfl (zaq rfl tb3 (ev2 rfl) rfl rfl) (by simp only [upd, za, zaa]; exact rfl) ?_
        refine zai (gd_f (b := false) rfl rfl rfl) rfl rfl rfl (zac (.inl rfl) (ev1 rfl)) (by simp only [upd, za, zaa]; exact rfl) ?_
        refine zai (gd_f (b := false) rfl rfl rfl) rfl rfl rfl ((op_shr (2) rfl (ev2 rfl) (ev2 rfl) (fun _ => ⟨rfl, by decide⟩)).cast (d' := .val (.int .i64 12)) (by kernel_rfl)) (by simp only [upd, za, zaa]; exact rfl) ?_
        refine zai (gd_f (b := false) rfl rfl rfl) rfl rfl rfl ((op_iand rfl (ev2 rfl) (ev1 rfl)).cast (d' := .val (.int .i64 0)) (by kernel_rfl)) (by simp only [upd, za, zaa]; exact rfl) ?_
        refine zai (gd_f (b := false) rfl rfl rfl) rfl rfl rfl ((op_eql rfl (ev2 rfl) (ev1 rfl)).cast (d' := .val (.bool true)) (by kernel_rfl)) (by simp only [upd, za, zaa]; exact rfl) ?_
        refine zai (gd_f (b := false) rfl rfl rfl) rfl rfl rfl (zac (.inl rfl) (ev2 rfl)) (by simp only [upd, za, zaa]; exact rfl) ?_
        refine zai (gd_tt (g := true) (b := true) rfl rfl rfl) rfl rfl rfl (zap rfl fo122_2 (ev1 rfl)) (by simp only [upd, za, zaa]; exact rfl) ?_
        refine zai (gd_tt (g := true) (b := true) rfl rfl rfl) rfl rfl rfl (zaq rfl tb119 (ev2 rfl) rfl rfl) (by simp only [upd, za, zaa]; exact rfl) ?_
        refine zai (gd_tt (g := true) (b := true) rfl rfl rfl) rfl rfl rfl (zah [] [0] [] rfl (ev2 rfl) (ec (ev1 rfl) en) rfl rfl (blk2_d _) rfl rfl rfl rfl rfl rfl) (by simp only [upd, za, zaa]; exact rfl) ?_
        refine zai (gd_tt (g := true) (b := true) rfl rfl rfl) rfl rfl rfl (op_not rfl (ev2 rfl)) (by simp only [upd, za, zaa]; exact rfl) ?_
        refine zai (gd_f (b := false) rfl rfl rfl) rfl rfl rfl (op_and rfl (ev2 rfl) (ev3 rfl (fun _ => rfl))) (by simp only [upd, za, zaa]; exact rfl) ?_
        refine zab rfl rfl rfl (op_or rfl (ev1 rfl) (ev3 rfl (fun _ => rfl))) ?_
        refine zae ?_
        refine dwp_cond rfl (fun c7 => ?_) (fun c7 => ?_)
        · refine zaf ?_
          refine zad ?_
          refine zab rfl rfl rfl (zac (.inr rfl) (ev1 rfl)) ?_
          refine zae ?_
          refine zan ?_
          refine kend0 (rs1 rfl (rv_t rfl)) rfl ?_
          have hb : opB o = false := by
            unfold opB
            simp_all [mostK, errz, eqI_dec, errOr_z]
            all_goals (first | (intros; omega) | (intros; simp_all; done))
          rw [hb]
          rfl
        · refine zam ?_
          refine zad ?_
          refine zab rfl rfl rfl ((op_add' rfl (ev1 rfl) (ev1 rfl) (fun _ => IntWalk.i64_in _ (by omega))).cast (d' := .val (.int .i64 3)) (by kernel_rfl)) ?_
          refine zab rfl rfl rfl (zac (.inl rfl) (ev1 rfl)) ?_
          refine zae ?_
          refine dloop_step ?_
          refine zaf ?_
          refine zad ?_
          refine zab rfl rfl rfl ((op_lss rfl (ev1 rfl) (ev1 rfl)).cast (d' := .val (.bool true)) (by kernel_rfl)) ?_
          refine zae ?_
          refine zaf ?_
          refine dwp_if_t rfl (rfl) ?_
          refine zam ?_
          refine zaf ?_
          refine zat ?_
          refine zaf ?_
          refine zaj 1 (by simp only [holes, List.cons_append, List.nil_append]; exact rfl) ?_
          refine zad ?_
          refine zab rfl rfl rfl (zac (.inl rfl) (ev1 rfl)) ?_
          refine zab rfl rfl rfl (op_ixwr (3) rfl av123 (ev1 rfl) (ev1 rfl) (fun _ => rfl) (fun _ => by decide) (Nat.le_of_ble_eq_true rfl)) ?_
          refine zak rfl rfl rfl (zao 5 rfl zr122 rfl) (by simp only [upd, za, zaa]; exact rfl) ?_
          refine zab rfl rfl rfl (zac (.inr rfl) (ev1 rfl)) ?_
          refine walk_s rfl rfl (op_stam rfl tb122 (ev1 rfl) (ev1 rfl) rfl rfl rfl rfl) (by simp only [upd, za, zaa]; exact rfl) ?_
          refine zae ?_
          refine zaf ?_
          refine zad ?_
          refine zab rfl rfl rfl (zap rfl fo115_0 (ev1 rfl)) ?_
          refine zab rfl rfl rfl (zaq rfl tb3 (ev1 rfl) rfl rfl) ?_
          refine zab rfl rfl rfl (zac (.inl rfl) (ev1 rfl)) ?_
          refine zab rfl rfl rfl ((op_shr (3) rfl (ev1 rfl) (ev1 rfl) (fun _ => ⟨rfl, by decide⟩)).cast (d' := .val (.int .i64 6)) (by kernel_rfl)) ?_
          refine zab rfl rfl rfl ((op_iand rfl (ev1 rfl) (ev1 rfl)).cast (d' := .val (.int .i64 0)) (by kernel_rfl)) ?_
          refine zab rfl rfl rfl ((op_eql rfl (ev1 rfl) (ev1 rfl)).cast (d' := .val (.bool false)) (by kernel_rfl)) ?_
          refine zab rfl rfl rfl (zac (.inl rfl) (ev1 rfl)) ?_
          refine zag (gd_t (b := false) rfl rfl rfl) rfl rfl rfl (zas (d := .junk)) ?_
          refine zag (gd_t (b := false) rfl rfl rfl) rfl rfl rfl (zas (d := .junk)) ?_
          refine zag (gd_t (b := false) rfl rfl rfl) rfl rfl rfl (zas (d := .junk)) ?_
          refine zag (gd_t (b := false) rfl rfl rfl) rfl rfl rfl (zas (d := .val (.bool false))) ?_
          refine zag (gd_t (b := false) rfl rfl rfl) rfl rfl rfl (zas (d := .val (.bool false))) ?_
          refine zab rfl rfl rfl ((op_and rfl (ev1 rfl) (ev3 rfl id)).cast (d' := .val (.bool false)) (by rfl)) ?_
          refine zab rfl rfl rfl (zac (.inl rfl) (ev1 rfl)) ?_
          refine zai (gd_f (b := false) rfl rfl rfl) rfl rfl rfl (zap rfl fo115_0 (ev1 rfl)) (by simp only [upd, za, zaa]; exact rfl) ?_
          refine zai (gd_f (b := false) rfl rfl rfl) rfl rfl rfl (zaq rfl tb3 (ev2 rfl) rfl rfl) (by simp only [upd, za, zaa]; exact rfl) ?_
          refine zai (gd_f (b := false) rfl rfl rfl) rfl rfl rfl (zac (.inl rfl) (ev1 rfl)) (by simp only [upd, za, zaa]; exact rfl) ?_
          refine zai (gd_f (b := false) rfl rfl rfl) rfl rfl rfl ((op_shr (3) rfl (ev2 rfl) (ev2 rfl) (fun _ => ⟨rfl, by decide⟩)).cast (d' := .val (.int .i64 6)) (by kernel_rfl)) (by simp only [upd, za, zaa]; exact rfl) ?_
          refine zai (gd_f (b := false) rfl rfl rfl) rfl rfl rfl ((op_iand rfl (ev2 rfl) (ev1 rfl)).cast (d' := .val (.int .i64 0)) (by kernel_rfl)) (by simp only [upd, za, zaa]; exact rfl) ?_
          refine zai (gd_f (b := false) rfl rfl rfl) rfl rfl rfl ((op_eql rfl (ev2 rfl) (ev1 rfl)).cast (d' := .val (.bool true)) (by kernel_rfl)) (by simp only [upd, za, zaa]; exact rfl) ?_
          refine zai (gd_f (b := false) rfl rfl rfl) rfl rfl rfl (zac (.inl rfl) (ev2 rfl)) (by simp only [upd, za, zaa]; exact rfl) ?_
          refine zai (gd_tt (g := true) (b := true) rfl rfl rfl) rfl rfl rfl (zap rfl fo122_2 (ev1 rfl)) (by simp only [upd, za, zaa]; exact rfl) ?_
          refine zai (gd_tt (g := true) (b := true) rfl rfl rfl) rfl rfl rfl (zaq rfl tb119 (ev2 rfl) rfl rfl) (by simp only [upd, za, zaa]; exact rfl) ?_
          refine zai (gd_tt (g := true) (b := true) rfl rfl rfl) rfl rfl rfl (zah [] [0] [] rfl (ev2 rfl) (ec (ev1 rfl) en) rfl rfl (blk3_d _) rfl rfl rfl rfl rfl rfl) (by simp only [upd, za, zaa]; exact rfl) ?_
          refine zai (gd_tt (g := true) (b := true) rfl rfl rfl) rfl rfl rfl (op_not rfl (ev2 rfl)) (by simp only [upd, za, zaa]; exact rfl) ?_
          refine zai (gd_f (b := false) rfl rfl rfl) rfl rfl rfl (op_and rfl (ev2 rfl) (ev3 rfl (fun _ => rfl))) (by simp only [upd, za, zaa]; exact rfl) ?_
          refine zab rfl rfl rfl (op_or rfl (ev1 rfl) (ev3 rfl (fun _ => rfl))) ?_
          refine zae ?_
          refine dwp_cond rfl (fun c9 => ?_) (fun c9 => ?_)
          · refine zaf ?_
            refine zad ?_
            refine zab rfl rfl rfl (zac (.inr rfl) (ev1 rfl)) ?_
            refine zae ?_
            refine zan ?_
            refine kend0 (rs1 rfl (rv_t rfl)) rfl ?_
            have hb : opB o = false := by
              unfold opB
              simp_all [mostK, errz, eqI_dec, errOr_z]
              all_goals (first | (intros; omega) | (intros; simp_all; done))
            rw [hb]
            rfl
          · refine zam ?_
            refine zad ?_
            refine zab rfl rfl rfl ((op_add' rfl (ev1 rfl) (ev1 rfl) (fun _ => IntWalk.i64_in _ (by omega))).cast (d' := .val (.int .i64 4)) (by kernel_rfl)) ?_
            refine zab rfl rfl rfl (zac (.inl rfl) (ev1 rfl)) ?_
            refine zae ?_
            refine dloop_step ?_
            refine zaf ?_
            refine zad ?_
            refine zab rfl rfl rfl ((op_lss rfl (ev1 rfl) (ev1 rfl)).cast (d' := .val (.bool true)) (by kernel_rfl)) ?_
            refine zae ?_
            refine zaf ?_
            refine dwp_if_t rfl (rfl) ?_
            refine zam ?_
            refine zaf ?_
            refine zat ?_
            refine zaf ?_
            refine zaj 1 (by simp only [holes, List.cons_append, List.nil_append]; exact rfl) ?_
            refine zad ?_
            refine zab rfl rfl rfl (zac (.inl rfl) (ev1 rfl)) ?_
            refine zab rfl rfl rfl (op_ixwr (4) rfl av123 (ev1 rfl) (ev1 rfl) (fun _ => rfl) (fun _ => by decide) (Nat.le_of_ble_eq_true rfl)) ?_
            refine zak rfl rfl rfl (zao 6 rfl zr122 rfl) (by simp only [upd, za, zaa]; exact rfl) ?_
            refine zab rfl rfl rfl (zac (.inr rfl) (ev1 rfl)) ?_
            refine walk_s rfl rfl (op_stam rfl tb122 (ev1 rfl) (ev1 rfl) rfl rfl rfl rfl) (by simp only [upd, za, zaa]; exact rfl) ?_
            refine zae ?_
            refine zaf ?_
            refine zad ?_
            refine zab rfl rfl rfl (zap rfl fo115_0 (ev1 rfl)) ?_
            refine zab rfl rfl rfl (zaq rfl tb3 (ev1 rfl) rfl rfl) ?_
            refine zab rfl rfl rfl (zac (.inl rfl) (ev1 rfl)) ?_
            refine zab rfl rfl rfl ((op_shr (4) rfl (ev1 rfl) (ev1 rfl) (fun _ => ⟨rfl, by decide⟩)).cast (d' := .val (.int .i64 3)) (by kernel_rfl)) ?_
            refine zab rfl rfl rfl ((op_iand rfl (ev1 rfl) (ev1 rfl)).cast (d' := .val (.int .i64 1)) (by kernel_rfl)) ?_
            refine zab rfl rfl rfl ((op_eql rfl (ev1 rfl) (ev1 rfl)).cast (d' := .val (.bool true)) (by kernel_rfl)) ?_
            refine zab rfl rfl rfl (zac (.inl rfl) (ev1 rfl)) ?_
            refine zai (gd_t (b := true) rfl rfl rfl) rfl rfl rfl (zap rfl fo122_1 (ev1 rfl)) (by simp only [upd, za, zaa]; exact rfl) ?_
            refine zai (gd_t (b := true) rfl rfl rfl) rfl rfl rfl (zaq rfl tb118 (ev2 rfl) rfl rfl) (by simp only [upd, za, zaa]; exact rfl) ?_
            refine zai (gd_t (b := true) rfl rfl rfl) rfl rfl rfl (op_ldmw rfl tb115 (ev1 rfl) rfl rfl) (by simp only [upd, za, zaa]; exact rfl) ?_
            refine zai (gd_t (b := true) rfl rfl rfl) rfl rfl rfl (zah [] [0] [] rfl (ev2 rfl) (ec (ev2 rfl) (ec (ev1 rfl) en)) rfl rfl (fit4_d _ _ _ _ _) rfl rfl rfl rfl rfl rfl) (by simp only [upd, za, zaa]; exact rfl) ?_
            refine zai (gd_t (b := true) rfl rfl rfl) rfl rfl rfl (op_not rfl (ev2 rfl)) (by simp only [upd, za, zaa]; exact rfl) ?_
            refine zab rfl rfl rfl (op_and rfl (ev1 rfl) (ev3 rfl (fun _ => rfl))) ?_
            refine zab rfl rfl rfl (zac (.inl rfl) (ev1 rfl)) ?_
            refine zag (gd_f rfl rfl rfl) rfl rfl rfl (zap rfl fo115_0 (ev1 rfl)) ?_
            refine zag (gd_f rfl rfl rfl) rfl rfl rfl (zaq rfl tb3 (ev2 rfl) rfl rfl) ?_
            refine zag (gd_f rfl rfl rfl) rfl rfl rfl (zac (.inl rfl) (ev1 rfl)) ?_
            refine zag (gd_f rfl rfl rfl) rfl rfl rfl ((op_shr (4) rfl (ev2 rfl) (ev2 rfl) (fun _ => ⟨rfl, by decide⟩)).cast (d' := .val (.int .i64 3)) (by kernel_rfl)) ?_
            refine zag (gd_f rfl rfl rfl) rfl rfl rfl ((op_iand rfl (ev2 rfl) (ev1 rfl)).cast (d' := .val (.int .i64 1)) (by kernel_rfl)) ?_
            refine zag (gd_f rfl rfl rfl) rfl rfl rfl ((op_eql rfl (ev2 rfl) (ev1 rfl)).cast (d' := .val (.bool false)) (by kernel_rfl)) ?_
            refine zag (gd_f rfl rfl rfl) rfl rfl rfl (zac (.inl rfl) (ev2 rfl)) ?_
            refine zag (gd_tt rfl rfl rfl) rfl rfl rfl (zap rfl fo122_2 (ev1 rfl)) ?_
            refine zag (gd_tt rfl rfl rfl) rfl rfl rfl (zaq rfl tb119 (ev2 rfl) rfl rfl) ?_
            refine zag (gd_tt rfl rfl rfl) rfl rfl rfl (zah [] [0] [] rfl (ev2 rfl) (ec (ev1 rfl) en) rfl rfl (blk4_d _) rfl rfl rfl rfl rfl rfl) ?_
            refine zag (gd_tt rfl rfl rfl) rfl rfl rfl (op_not rfl (ev2 rfl)) ?_
            refine zag (gd_f rfl rfl rfl) rfl rfl rfl ((op_and rfl (ev2 rfl) (ev2 rfl)).cast (d' := .val (.bool false)) (by rfl)) ?_
            refine zab rfl rfl rfl (op_or rfl (ev1 rfl) (ev3 rfl id)) ?_
            refine zae ?_
            refine dwp_cond rfl (fun c11 => ?_) (fun c11 => ?_)
            · refine zaf ?_
              refine zad ?_
              refine zab rfl rfl rfl (zac (.inr rfl) (ev1 rfl)) ?_
              refine zae ?_
              refine zan ?_
              refine kend0 (rs1 rfl (rv_t rfl)) rfl ?_
              have hb : opB o = false := by
                unfold opB
                simp_all [mostK, errz, eqI_dec, errOr_z]
                all_goals (first | (intros; omega) | (intros; simp_all; done))
              rw [hb]
              rfl
            · refine zam ?_
              refine zad ?_
              refine zab rfl rfl rfl ((op_add' rfl (ev1 rfl) (ev1 rfl) (fun _ => IntWalk.i64_in _ (by omega))).cast (d' := .val (.int .i64 5)) (by kernel_rfl)) ?_
              refine zab rfl rfl rfl (zac (.inl rfl) (ev1 rfl)) ?_
              refine zae ?_
              refine dloop_step ?_
              refine zaf ?_
              refine zad ?_
              refine zab rfl rfl rfl ((op_lss rfl (ev1 rfl) (ev1 rfl)).cast (d' := .val (.bool true)) (by kernel_rfl)) ?_
              refine zae ?_
              refine zaf ?_
              refine dwp_if_t rfl (rfl) ?_
              refine zam ?_
              refine zaf ?_
              refine zat ?_
              refine zaf ?_
              refine zaj 1 (by simp only [holes, List.cons_append, List.nil_append]; exact rfl) ?_
              refine zad ?_
              refine zab rfl rfl rfl (zac (.inl rfl) (ev1 rfl)) ?_
              refine zab rfl rfl rfl (op_ixwr (5) rfl av123 (ev1 rfl) (ev1 rfl) (fun _ => rfl) (fun _ => by decide) (Nat.le_of_ble_eq_true rfl)) ?_
              refine zak rfl rfl rfl (zao 7 rfl zr122 rfl) (by simp only [upd, za, zaa]; exact rfl) ?_
              refine zab rfl rfl rfl (zac (.inr rfl) (ev1 rfl)) ?_
              refine walk_s rfl rfl (op_stam rfl tb122 (ev1 rfl) (ev1 rfl) rfl rfl rfl rfl) (by simp only [upd, za, zaa]; exact rfl) ?_
              refine zae ?_
              refine zaf ?_
              refine zad ?_
              refine zab rfl rfl rfl (zap rfl fo115_0 (ev1 rfl)) ?_
              refine zab rfl rfl rfl (zaq rfl tb3 (ev1 rfl) rfl rfl) ?_
              refine zab rfl rfl rfl (zac (.inl rfl) (ev1 rfl)) ?_
              refine zab rfl rfl rfl ((op_shr (5) rfl (ev1 rfl) (ev1 rfl) (fun _ => ⟨rfl, by decide⟩)).cast (d' := .val (.int .i64 1)) (by kernel_rfl)) ?_
              refine zab rfl rfl rfl ((op_iand rfl (ev1 rfl) (ev1 rfl)).cast (d' := .val (.int .i64 1)) (by kernel_rfl)) ?_
              refine zab rfl rfl rfl ((op_eql rfl (ev1 rfl) (ev1 rfl)).cast (d' := .val (.bool true)) (by kernel_rfl)) ?_
              refine zab rfl rfl rfl (zac (.inl rfl) (ev1 rfl)) ?_
              refine zai (gd_t (b := true) rfl rfl rfl) rfl rfl rfl (zap rfl fo122_1 (ev1 rfl)) (by simp only [upd, za, zaa]; exact rfl) ?_
              refine zai (gd_t (b := true) rfl rfl rfl) rfl rfl rfl (zaq rfl tb118 (ev2 rfl) rfl rfl) (by simp only [upd, za, zaa]; exact rfl) ?_
              refine zai (gd_t (b := true) rfl rfl rfl) rfl rfl rfl (op_ldmw rfl tb115 (ev1 rfl) rfl rfl) (by simp only [upd, za, zaa]; exact rfl) ?_
              refine zai (gd_t (b := true) rfl rfl rfl) rfl rfl rfl (zah [] [0] [] rfl (ev2 rfl) (ec (ev2 rfl) (ec (ev1 rfl) en)) rfl rfl (fit5_d _ _ _ _ _) rfl rfl rfl rfl rfl rfl) (by simp only [upd, za, zaa]; exact rfl) ?_
              refine zai (gd_t (b := true) rfl rfl rfl) rfl rfl rfl (op_not rfl (ev2 rfl)) (by simp only [upd, za, zaa]; exact rfl) ?_
              refine zab rfl rfl rfl (op_and rfl (ev1 rfl) (ev3 rfl (fun _ => rfl))) ?_
              refine zab rfl rfl rfl (zac (.inl rfl) (ev1 rfl)) ?_
              refine zag (gd_f rfl rfl rfl) rfl rfl rfl (zap rfl fo115_0 (ev1 rfl)) ?_
              refine zag (gd_f rfl rfl rfl) rfl rfl rfl (zaq rfl tb3 (ev2 rfl) rfl rfl) ?_
              refine zag (gd_f rfl rfl rfl) rfl rfl rfl (zac (.inl rfl) (ev1 rfl)) ?_
              refine zag (gd_f rfl rfl rfl) rfl rfl rfl ((op_shr (5) rfl (ev2 rfl) (ev2 rfl) (fun _ => ⟨rfl, by decide⟩)).cast (d' := .val (.int .i64 1)) (by kernel_rfl)) ?_
              refine zag (gd_f rfl rfl rfl) rfl rfl rfl ((op_iand rfl (ev2 rfl) (ev1 rfl)).cast (d' := .val (.int .i64 1)) (by kernel_rfl)) ?_
              refine zag (gd_f rfl rfl rfl) rfl rfl rfl ((op_eql rfl (ev2 rfl) (ev1 rfl)).cast (d' := .val (.bool false)) (by kernel_rfl)) ?_
              refine zag (gd_f rfl rfl rfl) rfl rfl rfl (zac (.inl rfl) (ev2 rfl)) ?_
              refine zag (gd_tt rfl rfl rfl) rfl rfl rfl (zap rfl fo122_2 (ev1 rfl)) ?_
              refine zag (gd_tt rfl rfl rfl) rfl rfl rfl (zaq rfl tb119 (ev2 rfl) rfl rfl) ?_
              refine zag (gd_tt rfl rfl rfl) rfl rfl rfl (zah [] [0] [] rfl (ev2 rfl) (ec (ev1 rfl) en) rfl rfl (blk5_d _) rfl rfl rfl rfl rfl rfl) ?_
              refine zag (gd_tt rfl rfl rfl) rfl rfl rfl (op_not rfl (ev2 rfl)) ?_
              refine zag (gd_f rfl rfl rfl) rfl rfl rfl ((op_and rfl (ev2 rfl) (ev2 rfl)).cast (d' := .val (.bool false)) (by rfl)) ?_
              refine zab rfl rfl rfl (op_or rfl (ev1 rfl) (ev3 rfl id)) ?_
              refine zae ?_
              refine dwp_cond rfl (fun c13 => ?_) (fun c13 => ?_)
              · refine zaf ?_
                refine zad ?_
                refine zab rfl rfl rfl (zac (.inr rfl) (ev1 rfl)) ?_
                refine zae ?_
                refine zan ?_
                refine kend0 (rs1 rfl (rv_t rfl)) rfl ?_
                have hb : opB o = false := by
                  unfold opB
                  simp_all [mostK, errz, eqI_dec, errOr_z]
                  all_goals (first | (intros; omega) | (intros; simp_all; done))
                rw [hb]
                rfl
              · refine zam ?_
                refine zad ?_
                refine zab rfl rfl rfl ((op_add' rfl (ev1 rfl) (ev1 rfl) (fun _ => IntWalk.i64_in _ (by omega))).cast (d' := .val (.int .i64 6)) (by kernel_rfl)) ?_
                refine zab rfl rfl rfl (zac (.inl rfl) (ev1 rfl)) ?_
                refine zae ?_
                refine dloop_step ?_
                refine zaf ?_
                refine zad ?_
                refine zab rfl rfl rfl ((op_lss rfl (ev1 rfl) (ev1 rfl)).cast (d' := .val (.bool true)) (by kernel_rfl)) ?_
                refine zae ?_
                refine zaf ?_
                refine dwp_if_t rfl (rfl) ?_
                refine zam ?_
                refine zaf ?_
                refine zat ?_
                refine zaf ?_
                refine zaj 1 (by simp only [holes, List.cons_append, List.nil_append]; exact rfl) ?_
                refine zad ?_
                refine zab rfl rfl rfl (zac (.inl rfl) (ev1 rfl)) ?_
                refine zab rfl rfl rfl (op_ixwr (6) rfl av123 (ev1 rfl) (ev1 rfl) (fun _ => rfl) (fun _ => by decide) (Nat.le_of_ble_eq_true rfl)) ?_
                refine zak rfl rfl rfl (zao 8 rfl zr122 rfl) (by simp only [upd, za, zaa]; exact rfl) ?_
                refine zab rfl rfl rfl (zac (.inr rfl) (ev1 rfl)) ?_
                refine walk_s rfl rfl (op_stam rfl tb122 (ev1 rfl) (ev1 rfl) rfl rfl rfl rfl) (by simp only [upd, za, zaa]; exact rfl) ?_
                refine zae ?_
                refine zaf ?_
                refine zad ?_
                refine zab rfl rfl rfl (zap rfl fo115_0 (ev1 rfl)) ?_
                refine zab rfl rfl rfl (zaq rfl tb3 (ev1 rfl) rfl rfl) ?_
                refine zab rfl rfl rfl (zac (.inl rfl) (ev1 rfl)) ?_
                refine zab rfl rfl rfl ((op_shr (6) rfl (ev1 rfl) (ev1 rfl) (fun _ => ⟨rfl, by decide⟩)).cast (d' := .val (.int .i64 0)) (by kernel_rfl)) ?_
                refine zab rfl rfl rfl ((op_iand rfl (ev1 rfl) (ev1 rfl)).cast (d' := .val (.int .i64 0)) (by kernel_rfl)) ?_
                refine zab rfl rfl rfl ((op_eql rfl (ev1 rfl) (ev1 rfl)).cast (d' := .val (.bool false)) (by kernel_rfl)) ?_
                refine zab rfl rfl rfl (zac (.inl rfl) (ev1 rfl)) ?_
                refine zag (gd_t (b := false) rfl rfl rfl) rfl rfl rfl (zas (d := .junk)) ?_
                refine zag (gd_t (b := false) rfl rfl rfl) rfl rfl rfl (zas (d := .junk)) ?_
                refine zag (gd_t (b := false) rfl rfl rfl) rfl rfl rfl (zas (d := .junk)) ?_
                refine zag (gd_t (b := false) rfl rfl rfl) rfl rfl rfl (zas (d := .val (.bool false))) ?_
                refine zag (gd_t (b := false) rfl rfl rfl) rfl rfl rfl (zas (d := .val (.bool false))) ?_
                refine zab rfl rfl rfl ((op_and rfl (ev1 rfl) (ev3 rfl id)).cast (d' := .val (.bool false)) (by rfl)) ?_
                refine zab rfl rfl rfl (zac (.inl rfl) (ev1 rfl)) ?_
                refine zai (gd_f (b := false) rfl rfl rfl) rfl rfl rfl (zap rfl fo115_0 (ev1 rfl)) (by simp only [upd, za, zaa]; exact rfl) ?_
                refine zai (gd_f (b := false) rfl rfl rfl) rfl rfl rfl (zaq rfl tb3 (ev2 rfl) rfl rfl) (by simp only [upd, za, zaa]; exact rfl) ?_
                refine zai (gd_f (b := false) rfl rfl rfl) rfl rfl rfl (zac (.inl rfl) (ev1 rfl)) (by simp only [upd, za, zaa]; exact rfl) ?_
                refine zai (gd_f (b := false) rfl rfl rfl) rfl rfl rfl ((op_shr (6) rfl (ev2 rfl) (ev2 rfl) (fun _ => ⟨rfl, by decide⟩)).cast (d' := .val (.int .i64 0)) (by kernel_rfl)) (by simp only [upd, za, zaa]; exact rfl) ?_
                refine zai (gd_f (b := false) rfl rfl rfl) rfl rfl rfl ((op_iand rfl (ev2 rfl) (ev1 rfl)).cast (d' := .val (.int .i64 0)) (by kernel_rfl)) (by simp only [upd, za, zaa]; exact rfl) ?_
                refine zai (gd_f (b := false) rfl rfl rfl) rfl rfl rfl ((op_eql rfl (ev2 rfl) (ev1 rfl)).cast (d' := .val (.bool true)) (by kernel_rfl)) (by simp only [upd, za, zaa]; exact rfl) ?_
                refine zai (gd_f (b := false) rfl rfl rfl) rfl rfl rfl (zac (.inl rfl) (ev2 rfl)) (by simp only [upd, za, zaa]; exact rfl) ?_
                refine zai (gd_tt (g := true) (b := true) rfl rfl rfl) rfl rfl rfl (zap rfl fo122_2 (ev1 rfl)) (by simp only [upd, za, zaa]; exact rfl) ?_
                refine zai (gd_tt (g := true) (b := true) rfl rfl rfl) rfl rfl rfl (zaq rfl tb119 (ev2 rfl) rfl rfl) (by simp only [upd, za, zaa]; exact rfl) ?_
                refine zai (gd_tt (g := true) (b := true) rfl rfl rfl) rfl rfl rfl (zah [] [0] [] rfl (ev2 rfl) (ec (ev1 rfl) en) rfl rfl (blk6_d _) rfl rfl rfl rfl rfl rfl) (by simp only [upd, za, zaa]; exact rfl) ?_
                refine zai (gd_tt (g := true) (b := true) rfl rfl rfl) rfl rfl rfl (op_not rfl (ev2 rfl)) (by simp only [upd, za, zaa]; exact rfl) ?_
                refine zai (gd_f (b := false) rfl rfl rfl) rfl rfl rfl (op_and rfl (ev2 rfl) (ev3 rfl (fun _ => rfl))) (by simp only [upd, za, zaa]; exact rfl) ?_
                refine zab rfl rfl rfl (op_or rfl (ev1 rfl) (ev3 rfl (fun _ => rfl))) ?_
                refine zae ?_
                refine dwp_cond rfl (fun c15 => ?_) (fun c15 => ?_)
                · refine zaf ?_
                  refine zad ?_
                  refine zab rfl rfl rfl (zac (.inr rfl) (ev1 rfl)) ?_
                  refine zae ?_
                  refine zan ?_
                  refine kend0 (rs1 rfl (rv_t rfl)) rfl ?_
                  have hb : opB o = false := by
                    unfold opB
                    simp_all [mostK, errz, eqI_dec, errOr_z]
                    all_goals (first | (intros; omega) | (intros; simp_all; done))
                  rw [hb]
                  rfl
                · refine zam ?_
                  refine zad ?_
                  refine zab rfl rfl rfl ((op_add' rfl (ev1 rfl) (ev1 rfl) (fun _ => IntWalk.i64_in _ (by omega))).cast (d' := .val (.int .i64 7)) (by kernel_rfl)) ?_
                  refine zab rfl rfl rfl (zac (.inl rfl) (ev1 rfl)) ?_
                  refine zae ?_
                  refine dloop_step ?_
                  refine zaf ?_
                  refine zad ?_
                  refine zab rfl rfl rfl ((op_lss rfl (ev1 rfl) (ev1 rfl)).cast (d' := .val (.bool true)) (by kernel_rfl)) ?_
                  refine zae ?_
                  refine zaf ?_
                  refine dwp_if_t rfl (rfl) ?_
                  refine zam ?_
                  refine zaf ?_
                  refine zat ?_
                  refine zaf ?_
                  refine zaj 1 (by simp only [holes, List.cons_append, List.nil_append]; exact rfl) ?_
                  refine zad ?_
                  refine zab rfl rfl rfl (zac (.inl rfl) (ev1 rfl)) ?_
                  refine zab rfl rfl rfl (op_ixwr (7) rfl av123 (ev1 rfl) (ev1 rfl) (fun _ => rfl) (fun _ => by decide) (Nat.le_of_ble_eq_true rfl)) ?_
                  refine zak rfl rfl rfl (zao 9 rfl zr122 rfl) (by simp only [upd, za, zaa]; exact rfl) ?_
                  refine zab rfl rfl rfl (zac (.inr rfl) (ev1 rfl)) ?_
                  refine walk_s rfl rfl (op_stam rfl tb122 (ev1 rfl) (ev1 rfl) rfl rfl rfl rfl) (by simp only [upd, za, zaa]; exact rfl) ?_
                  refine zae ?_
                  refine zaf ?_
                  refine zad ?_
                  refine zab rfl rfl rfl (zap rfl fo115_0 (ev1 rfl)) ?_
                  refine zab rfl rfl rfl (zaq rfl tb3 (ev1 rfl) rfl rfl) ?_
                  refine zab rfl rfl rfl (zac (.inl rfl) (ev1 rfl)) ?_
                  refine zab rfl rfl rfl ((op_shr (7) rfl (ev1 rfl) (ev1 rfl) (fun _ => ⟨rfl, by decide⟩)).cast (d' := .val (.int .i64 0)) (by kernel_rfl)) ?_
                  refine zab rfl rfl rfl ((op_iand rfl (ev1 rfl) (ev1 rfl)).cast (d' := .val (.int .i64 0)) (by kernel_rfl)) ?_
                  refine zab rfl rfl rfl ((op_eql rfl (ev1 rfl) (ev1 rfl)).cast (d' := .val (.bool false)) (by kernel_rfl)) ?_
                  refine zab rfl rfl rfl (zac (.inl rfl) (ev1 rfl)) ?_
                  refine zag (gd_t (b := false) rfl rfl rfl) rfl rfl rfl (zas (d := .junk)) ?_
                  refine zag (gd_t (b := false) rfl rfl rfl) rfl rfl rfl (zas (d := .junk)) ?_
                  refine zag (gd_t (b := false) rfl rfl rfl) rfl rfl rfl (zas (d := .junk)) ?_
                  refine zag (gd_t (b := false) rfl rfl rfl) rfl rfl rfl (zas (d := .val (.bool false))) ?_
                  refine zag (gd_t (b := false) rfl rfl rfl) rfl rfl rfl (zas (d := .val (.bool false))) ?_
                  refine zab rfl rfl rfl ((op_and rfl (ev1 rfl) (ev3 rfl id)).cast (d' := .val (.bool false)) (by rfl)) ?_
                  refine zab rfl rfl rfl (zac (.inl rfl) (ev1 rfl)) ?_
                  refine zai (gd_f (b := false) rfl rfl rfl) rfl rfl rfl (zap rfl fo115_0 (ev1 rfl)) (by simp only [upd, za, zaa]; exact rfl) ?_
                  refine zai (gd_f (b := false) rfl rfl rfl) rfl rfl rfl (zaq rfl tb3 (ev2 rfl) rfl rfl) (by simp only [upd, za, zaa]; exact rfl) ?_
                  refine zai (gd_f (b := false) rfl rfl rfl) rfl rfl rfl (zac (.inl rfl) (ev1 rfl)) (by simp only [upd, za, zaa]; exact rfl) ?_
                  refine zai (gd_f (b := false) rfl rfl rfl) rfl rfl rfl ((op_shr (7) rfl (ev2 rfl) (ev2 rfl) (fun _ => ⟨rfl, by decide⟩)).cast (d' := .val (.int .i64 0)) (by kernel_rfl)) (by simp only [upd, za, zaa]; exact rfl) ?_
                  refine zai (gd_f (b := false) rfl rfl rfl) rfl rfl rfl ((op_iand rfl (ev2 rfl) (ev1 rfl)).cast (d' := .val (.int .i64 0)) (by kernel_rfl)) (by simp only [upd, za, zaa]; exact rfl) ?_
                  refine zai (gd_f (b := false) rfl rfl rfl) rfl rfl rfl ((op_eql rfl (ev2 rfl) (ev1 rfl)).cast (d' := .val (.bool true)) (by kernel_rfl)) (by simp only [upd, za, zaa]; exact rfl) ?_
                  refine zai (gd_f (b := false) rfl rfl rfl) rfl rfl rfl (zac (.inl rfl) (ev2 rfl)) (by simp only [upd, za, zaa]; exact rfl) ?_
                  refine zai (gd_tt (g := true) (b := true) rfl rfl rfl) rfl rfl rfl (zap rfl fo122_2 (ev1 rfl)) (by simp only [upd, za, zaa]; exact rfl) ?_
                  refine zai (gd_tt (g := true) (b := true) rfl rfl rfl) rfl rfl rfl (zaq rfl tb119 (ev2 rfl) rfl rfl) (by simp only [upd, za, zaa]; exact rfl) ?_
                  refine zai (gd_tt (g := true) (b := true) rfl rfl rfl) rfl rfl rfl (zah [] [0] [] rfl (ev2 rfl) (ec (ev1 rfl) en) rfl rfl (blk7_d _) rfl rfl rfl rfl rfl rfl) (by simp only [upd, za, zaa]; exact rfl) ?_
                  refine zai (gd_tt (g := true) (b := true) rfl rfl rfl) rfl rfl rfl (op_not rfl (ev2 rfl)) (by simp only [upd, za, zaa]; exact rfl) ?_
                  refine zai (gd_f (b := false) rfl rfl rfl) rfl rfl rfl (op_and rfl (ev2 rfl) (ev3 rfl (fun _ => rfl))) (by simp only [upd, za, zaa]; exact rfl) ?_
                  refine zab rfl rfl rfl (op_or rfl (ev1 rfl) (ev3 rfl (fun _ => rfl))) ?_
                  refine zae ?_
                  refine dwp_cond rfl (fun c17 => ?_) (fun c17 => ?_)
                  · refine zaf ?_
                    refine zad ?_
                    refine zab rfl rfl rfl (zac (.inr rfl) (ev1 rfl)) ?_
                    refine zae ?_
                    refine zan ?_
                    refine kend0 (rs1 rfl (rv_t rfl)) rfl ?_
                    have hb : opB o = false := by
                      unfold opB
                      simp_all [mostK, errz, eqI_dec, errOr_z]
                      all_goals (first | (intros; omega) | (intros; simp_all; done))
                    rw [hb]
                    rfl
                  · refine zam ?_
                    refine zad ?_
                    refine zab rfl rfl rfl ((op_add' rfl (ev1 rfl) (ev1 rfl) (fun _ => IntWalk.i64_in _ (by omega))).cast (d' := .val (.int .i64 8)) (by kernel_rfl)) ?_
                    refine zab rfl rfl rfl (zac (.inl rfl) (ev1 rfl)) ?_
                    refine zae ?_
                    refine dloop_step ?_
                    refine zaf ?_
                    refine zad ?_
                    refine zab rfl rfl rfl ((op_lss rfl (ev1 rfl) (ev1 rfl)).cast (d' := .val (.bool false)) (by kernel_rfl)) ?_
                    refine zae ?_
                    refine zaf ?_
                    refine dwp_if_f rfl (rfl) ?_
                    refine dwp_exit ?_
                    refine zaf ?_
                    refine zad ?_
                    refine zab rfl rfl rfl (zac (.inr rfl) (ev1 rfl)) ?_
                    refine zae ?_
                    refine zan ?_
                    refine kend0 (rs1 rfl (rv_t rfl)) rfl ?_
                    have hb : opB o = true := by
                      unfold opB
                      simp_all [mostK, errz, eqI_dec, errOr_z]
                      all_goals (first | (intros; omega) | (intros; simp_all; done))
                    rw [hb]
                    rfl
set_option maxRecDepth 4000 in
set_option maxHeartbeats 1000000 in
theorem opc_c6 (o : OpM) (pf : FuncId) (hk : o.kd = 6) (hK : DFun Tryz.prog 62 [.val (.int .i64 o.kd)] [] (.tup [.agg [iD 67, iD 0, .fn (.func 143) [] [], .fn (.func 144) [] []], .val (.bool true)]) []) : DFun Tryz.prog 29 [.agg (opD o)] [] (.val (.int .i64 (errOr (opB o) 220))) [] := by
  refine zal (N := 54) 0 (by kernel_rfl) Tryz.func29 rfl rfl rfl (by simp only [fr0, Nat.zero_add, Nat.reduceAdd]; exact rfl) rfl fun s0 hs0 => ?_
  refine zaf ?_
  refine zaj 1 (by simp only [holes, List.cons_append, List.nil_append]; exact rfl) ?_
  refine zad ?_
  refine zak rfl rfl rfl (op_boxam 0 rfl (ev1 rfl) rfl) (by simp only [upd, za, zaa]; exact rfl) ?_
  refine zab rfl rfl rfl (zac (.inr rfl) (ev1 rfl)) ?_
  refine zae ?_
  refine zaf ?_
  refine zaj 1 (by simp only [holes, List.cons_append, List.nil_append]; exact rfl) ?_
  refine zad ?_
  refine zab rfl rfl rfl (zap rfl fo47_1 (ev1 rfl)) ?_
  refine zab rfl rfl rfl (zaq rfl tb3 (ev1 rfl) rfl rfl) ?_
  refine zab rfl rfl rfl (zah [] [] [] rfl (ev1 rfl) (ec (ev1 rfl) en) rfl rfl (hK) rfl rfl rfl rfl rfl rfl) ?_
  refine zab rfl rfl rfl (zac (.inl rfl) (ev1 rfl)) ?_
  refine zab rfl rfl rfl (zar rfl (ev1 rfl) rfl) ?_
  refine zab rfl rfl rfl (zar rfl (ev1 rfl) rfl) ?_
  refine zak rfl rfl rfl (zao 1 rfl zr115 rfl) (by simp only [upd, za, zaa]; exact rfl) ?_
  refine walk_s rfl rfl (op_stam rfl tb115 (ev1 rfl) (ev1 rfl) rfl rfl rfl rfl) (by simp only [upd, za, zaa]; exact rfl) ?_
  refine zab rfl rfl rfl (zac (.inr rfl) (ev1 rfl)) ?_
  refine zae ?_
  refine zaf ?_
  refine zaf ?_
  refine zad ?_
  refine zab rfl rfl rfl (zac (.inl rfl) (ev1 rfl)) ?_
  refine zab rfl rfl rfl ((op_not rfl (ev1 rfl)).cast (d' := .val (.bool false)) (by kernel_rfl)) ?_
  refine zab rfl rfl rfl (zac (.inl rfl) (ev1 rfl)) ?_
  refine zai (gd_f (b := false) rfl rfl rfl) rfl rfl rfl (zap rfl fo47_0 (ev1 rfl)) (by simp only [upd, za, zaa]; exact rfl) ?_
  refine zai (gd_f (b := false) rfl rfl rfl) rfl rfl rfl (op_ldmv (R := [_, _, _]) rfl tb29 (ev2 rfl) rfl rfl rfl) (by simp only [upd, za, zaa]; exact rfl) ?_
  refine zai (gd_f (b := false) rfl rfl rfl) rfl rfl rfl (zah [] [] [] rfl (ev1 rfl) (ec (ev2 rfl) en) rfl rfl (idCheck_d _) rfl rfl rfl rfl rfl rfl) (by simp only [upd, za, zaa]; exact rfl) ?_
  refine zai (gd_f (b := false) rfl rfl rfl) rfl rfl rfl (op_neq rfl (ev2 rfl) (ev1 rfl)) (by simp only [upd, za, zaa]; exact rfl) ?_
  refine zab rfl rfl rfl (op_or rfl (ev1 rfl) (ev3 rfl (fun _ => rfl))) ?_
  refine zae ?_
  refine dwp_cond rfl (fun c1 => ?_) (fun c1 => ?_)
  · refine zaf ?_
    refine zad ?_
    refine zab rfl rfl rfl (zac (.inr rfl) (ev1 rfl)) ?_
    refine zae ?_
    refine zan ?_
    refine kend0 (rs1 rfl (rv_t rfl)) rfl ?_
    have hb : opB o = false := by
      unfold opB
      simp_all [mostK, errz, eqI_dec, errOr_z]
      all_goals (first | (intros; omega) | (intros; simp_all; done))
    rw [hb]
    rfl
  · refine zam ?_
    refine zaf ?_
    refine zaf ?_
    refine zad ?_
    refine zab rfl rfl rfl (zah [] [] [] rfl (ev1 rfl) en rfl rfl (fields_d) rfl rfl rfl rfl rfl rfl) ?_
    refine zab rfl rfl rfl (zac (.inl rfl) (ev1 rfl)) ?_
    refine zae ?_
    refine zat ?_
    refine dwp_dloop (dloop_step ?_)
    refine zaf ?_
    refine zad ?_
    refine zab rfl rfl rfl ((op_lss rfl (ev1 rfl) (ev1 rfl)).cast (d' := .val (.bool true)) (by kernel_rfl)) ?_
    refine zae ?_
    refine zaf ?_
    refine dwp_if_t rfl (rfl) ?_
    refine zam ?_
    refine zaf ?_
    refine zat ?_
    refine zaf ?_
    refine zaj 1 (by simp only [holes, List.cons_append, List.nil_append]; exact rfl) ?_
    refine zad ?_
    refine zab rfl rfl rfl (zac (.inl rfl) (ev1 rfl)) ?_
    refine zab rfl rfl rfl (op_ixwr (0) rfl av123 (ev1 rfl) (ev1 rfl) (fun _ => rfl) (fun _ => by decide) (Nat.le_of_ble_eq_true rfl)) ?_
    refine zak rfl rfl rfl (zao 2 rfl zr122 rfl) (by simp only [upd, za, zaa]; exact rfl) ?_
    refine zab rfl rfl rfl (zac (.inr rfl) (ev1 rfl)) ?_
    refine walk_s rfl rfl (op_stam rfl tb122 (ev1 rfl) (ev1 rfl) rfl rfl rfl rfl) (by simp only [upd, za, zaa]; exact rfl) ?_
    refine zae ?_
    refine zaf ?_
    refine zad ?_
    refine zab rfl rfl rfl (zap rfl fo115_0 (ev1 rfl)) ?_
    refine zab rfl rfl rfl (zaq rfl tb3 (ev1 rfl) rfl rfl) ?_
    refine zab rfl rfl rfl (zac (.inl rfl) (ev1 rfl)) ?_
    refine zab rfl rfl rfl ((op_shr (0) rfl (ev1 rfl) (ev1 rfl) (fun _ => ⟨rfl, by decide⟩)).cast (d' := .val (.int .i64 67)) (by kernel_rfl)) ?_
    refine zab rfl rfl rfl ((op_iand rfl (ev1 rfl) (ev1 rfl)).cast (d' := .val (.int .i64 1)) (by kernel_rfl)) ?_
    refine zab rfl rfl rfl ((op_eql rfl (ev1 rfl) (ev1 rfl)).cast (d' := .val (.bool true)) (by kernel_rfl)) ?_
    refine zab rfl rfl rfl (zac (.inl rfl) (ev1 rfl)) ?_
    refine zai (gd_t (b := true) rfl rfl rfl) rfl rfl rfl (zap rfl fo122_1 (ev1 rfl)) (by simp only [upd, za, zaa]; exact rfl) ?_
    refine zai (gd_t (b := true) rfl rfl rfl) rfl rfl rfl (zaq rfl tb118 (ev2 rfl) rfl rfl) (by simp only [upd, za, zaa]; exact rfl) ?_
    refine zai (gd_t (b := true) rfl rfl rfl) rfl rfl rfl (op_ldmw rfl tb115 (ev1 rfl) rfl rfl) (by simp only [upd, za, zaa]; exact rfl) ?_
    refine zai (gd_t (b := true) rfl rfl rfl) rfl rfl rfl (zah [] [0] [] rfl (ev2 rfl) (ec (ev2 rfl) (ec (ev1 rfl) en)) rfl rfl (fit0_d _ _ _ _ _) rfl rfl rfl rfl rfl rfl) (by simp only [upd, za, zaa]; exact rfl) ?_
    refine zai (gd_t (b := true) rfl rfl rfl) rfl rfl rfl (op_not rfl (ev2 rfl)) (by simp only [upd, za, zaa]; exact rfl) ?_
    refine zab rfl rfl rfl (op_and rfl (ev1 rfl) (ev3 rfl (fun _ => rfl))) ?_
    refine zab rfl rfl rfl (zac (.inl rfl) (ev1 rfl)) ?_
    refine zag (gd_f rfl rfl rfl) rfl rfl rfl (zap rfl fo115_0 (ev1 rfl)) ?_
    refine zag (gd_f rfl rfl rfl) rfl rfl rfl (zaq rfl tb3 (ev2 rfl) rfl rfl) ?_
    refine zag (gd_f rfl rfl rfl) rfl rfl rfl (zac (.inl rfl) (ev1 rfl)) ?_
    refine zag (gd_f rfl rfl rfl) rfl rfl rfl ((op_shr (0) rfl (ev2 rfl) (ev2 rfl) (fun _ => ⟨rfl, by decide⟩)).cast (d' := .val (.int .i64 67)) (by kernel_rfl)) ?_
    refine zag (gd_f rfl rfl rfl) rfl rfl rfl ((op_iand rfl (ev2 rfl) (ev1 rfl)).cast (d' := .val (.int .i64 1)) (by kernel_rfl)) ?_
    refine zag (gd_f rfl rfl rfl) rfl rfl rfl ((op_eql rfl (ev2 rfl) (ev1 rfl)).cast (d' := .val (.bool false)) (by kernel_rfl)) ?_
    refine zag (gd_f rfl rfl rfl) rfl rfl rfl (zac (.inl rfl) (ev2 rfl)) ?_
    refine zag (gd_tt rfl rfl rfl) rfl rfl rfl (zap rfl fo122_2 (ev1 rfl)) ?_
    refine zag (gd_tt rfl rfl rfl) rfl rfl rfl (zaq rfl tb119 (ev2 rfl) rfl rfl) ?_
    refine zag (gd_tt rfl rfl rfl) rfl rfl rfl (zah [] [0] [] rfl (ev2 rfl) (ec (ev1 rfl) en) rfl rfl (blk0_d _) rfl rfl rfl rfl rfl rfl) ?_
    refine zag (gd_tt rfl rfl rfl) rfl rfl rfl (op_not rfl (ev2 rfl)) ?_
    refine zag (gd_f rfl rfl rfl) rfl rfl rfl ((op_and rfl (ev2 rfl) (ev2 rfl)).cast (d' := .val (.bool false)) (by rfl)) ?_
    refine zab rfl rfl rfl (op_or rfl (ev1 rfl) (ev3 rfl id)) ?_
    refine zae ?_
    refine dwp_cond rfl (fun c3 => ?_) (fun c3 => ?_)
    · refine zaf ?_
      refine zad ?_
      refine zab rfl rfl rfl (zac (.inr rfl) (ev1 rfl)) ?_
      refine zae ?_
      refine zan ?_
      refine kend0 (rs1 rfl (rv_t rfl)) rfl ?_
      have hb : opB o = false := by
        unfold opB
        simp_all [mostK, errz, eqI_dec, errOr_z]
        all_goals (first | (intros; omega) | (intros; simp_all; done))
      rw [hb]
      rfl
    · refine zam ?_
      refine zad ?_
      refine zab rfl rfl rfl ((op_add' rfl (ev1 rfl) (ev1 rfl) (fun _ => IntWalk.i64_in _ (by omega))).cast (d' := .val (.int .i64 1)) (by kernel_rfl)) ?_
      refine zab rfl rfl rfl (zac (.inl rfl) (ev1 rfl)) ?_
      refine zae ?_
      refine dloop_step ?_
      refine zaf ?_
      refine zad ?_
      refine zab rfl rfl rfl ((op_lss rfl (ev1 rfl) (ev1 rfl)).cast (d' := .val (.bool true)) (by kernel_rfl)) ?_
      refine zae ?_
      refine zaf ?_
      refine dwp_if_t rfl (rfl) ?_
      refine zam ?_
      refine zaf ?_
      refine zat ?_
      refine zaf ?_
      refine zaj 1 (by simp only [holes, List.cons_append, List.nil_append]; exact rfl) ?_
      refine zad ?_
      refine zab rfl rfl rfl (zac (.inl rfl) (ev1 rfl)) ?_
      refine zab rfl rfl rfl (op_ixwr (1) rfl av123 (ev1 rfl) (ev1 rfl) (fun _ => rfl) (fun _ => by decide) (Nat.le_of_ble_eq_true rfl)) ?_
      refine zak rfl rfl rfl (zao 3 rfl zr122 rfl) (by simp only [upd, za, zaa]; exact rfl) ?_
      refine zab rfl rfl rfl (zac (.inr rfl) (ev1 rfl)) ?_
      refine walk_s rfl rfl (op_stam rfl tb122 (ev1 rfl) (ev1 rfl) rfl rfl rfl rfl) (by simp only [upd, za, zaa]; exact rfl) ?_
      refine zae ?_
      refine zaf ?_
      refine zad ?_
      refine zab rfl rfl rfl (zap rfl fo115_0 (ev1 rfl)) ?_
      refine zab rfl rfl rfl (zaq rfl tb3 (ev1 rfl) rfl rfl) ?_
      refine zab rfl rfl rfl (zac (.inl rfl) (ev1 rfl)) ?_
      refine zab rfl rfl rfl ((op_shr (1) rfl (ev1 rfl) (ev1 rfl) (fun _ => ⟨rfl, by decide⟩)).cast (d' := .val (.int .i64 33)) (by kernel_rfl)) ?_
      refine zab rfl rfl rfl ((op_iand rfl (ev1 rfl) (ev1 rfl)).cast (d' := .val (.int .i64 1)) (by kernel_rfl)) ?_
      refine zab rfl rfl rfl ((op_eql rfl (ev1 rfl) (ev1 rfl)).cast (d' := .val (.bool true)) (by kernel_rfl)) ?_
      refine zab rfl rfl rfl (zac (.inl rfl) (ev1 rfl)) ?_
      refine zai (gd_t (b := true) rfl rfl rfl) rfl rfl rfl (zap rfl fo122_1 (ev1 rfl)) (by simp only [upd, za, zaa]; exact rfl) ?_
      refine zai (gd_t (b := true) rfl rfl rfl) rfl rfl rfl (zaq rfl tb118 (ev2 rfl) rfl rfl) (by simp only [upd, za, zaa]; exact rfl) ?_
      refine zai (gd_t (b := true) rfl rfl rfl) rfl rfl rfl (op_ldmw rfl tb115 (ev1 rfl) rfl rfl) (by simp only [upd, za, zaa]; exact rfl) ?_
      refine zai (gd_t (b := true) rfl rfl rfl) rfl rfl rfl (zah [] [0] [] rfl (ev2 rfl) (ec (ev2 rfl) (ec (ev1 rfl) en)) rfl rfl (fit1_d _ _ _ _ _) rfl rfl rfl rfl rfl rfl) (by simp only [upd, za, zaa]; exact rfl) ?_
      refine zai (gd_t (b := true) rfl rfl rfl) rfl rfl rfl (op_not rfl (ev2 rfl)) (by simp only [upd, za, zaa]; exact rfl) ?_
      refine zab rfl rfl rfl (op_and rfl (ev1 rfl) (ev3 rfl (fun _ => rfl))) ?_
      refine zab rfl rfl rfl (zac (.inl rfl) (ev1 rfl)) ?_
      refine zag (gd_f rfl rfl rfl) rfl rfl rfl (zap rfl fo115_0 (ev1 rfl)) ?_
      refine zag (gd_f rfl rfl rfl) rfl rfl rfl (zaq rfl tb3 (ev2 rfl) rfl rfl) ?_
      refine zag (gd_f rfl rfl rfl) rfl rfl rfl (zac (.inl rfl) (ev1 rfl)) ?_
      refine zag (gd_f rfl rfl rfl) rfl rfl rfl ((op_shr (1) rfl (ev2 rfl) (ev2 rfl) (fun _ => ⟨rfl, by decide⟩)).cast (d' := .val (.int .i64 33)) (by kernel_rfl)) ?_
      refine zag (gd_f rfl rfl rfl) rfl rfl rfl ((op_iand rfl (ev2 rfl) (ev1 rfl)).cast (d' := .val (.int .i64 1)) (by kernel_rfl)) ?_
      refine zag (gd_f rfl rfl rfl) rfl rfl rfl ((op_eql rfl (ev2 rfl) (ev1 rfl)).cast (d' := .val (.bool false)) (by kernel_rfl)) ?_
      refine zag (gd_f rfl rfl rfl) rfl rfl rfl (zac (.inl rfl) (ev2 rfl)) ?_
      refine zag (gd_tt rfl rfl rfl) rfl rfl rfl (zap rfl fo122_2 (ev1 rfl)) ?_
      refine zag (gd_tt rfl rfl rfl) rfl rfl rfl (zaq rfl tb119 (ev2 rfl) rfl rfl) ?_
      refine zag (gd_tt rfl rfl rfl) rfl rfl rfl (zah [] [0] [] rfl (ev2 rfl) (ec (ev1 rfl) en) rfl rfl (blk1_d _) rfl rfl rfl rfl rfl rfl) ?_
      refine zag (gd_tt rfl rfl rfl) rfl rfl rfl (op_not rfl (ev2 rfl)) ?_
      refine zag (gd_f rfl rfl rfl) rfl rfl rfl ((op_and rfl (ev2 rfl) (ev2 rfl)).cast (d' := .val (.bool false)) (by rfl)) ?_
      refine zab rfl rfl rfl (op_or rfl (ev1 rfl) (ev3 rfl id)) ?_
      refine zae ?_
      refine dwp_cond rfl (fun c5 => ?_) (fun c5 => ?_)
      · refine zaf ?_
        refine zad ?_
        refine zab rfl rfl rfl (zac (.inr rfl) (ev1 rfl)) ?_
        refine zae ?_
        refine zan ?_
        refine kend0 (rs1 rfl (rv_t rfl)) rfl ?_
        have hb : opB o = false := by
          unfold opB
          simp_all [mostK, errz, eqI_dec, errOr_z]
          all_goals (first | (intros; omega) | (intros; simp_all; done))
        rw [hb]
        rfl
      · refine zam ?_
        refine zad ?_
        refine zab rfl rfl rfl ((op_add' rfl (ev1 rfl) (ev1 rfl) (fun _ => IntWalk.i64_in _ (by omega))).cast (d' := .val (.int .i64 2)) (by kernel_rfl)) ?_
        refine zab rfl rfl rfl (zac (.inl rfl) (ev1 rfl)) ?_
        refine zae ?_
        refine dloop_step ?_
        refine zaf ?_
        refine zad ?_
        refine zab rfl rfl rfl ((op_lss rfl (ev1 rfl) (ev1 rfl)).cast (d' := .val (.bool true)) (by kernel_rfl)) ?_
        refine zae ?_
        refine zaf ?_
        refine dwp_if_t rfl (rfl) ?_
        refine zam ?_
        refine zaf ?_
        refine zat ?_
        refine zaf ?_
        refine zaj 1 (by simp only [holes, List.cons_append, List.nil_append]; exact rfl) ?_
        refine zad ?_
        refine zab rfl rfl rfl (zac (.inl rfl) (ev1 rfl)) ?_
        refine zab rfl rfl rfl (op_ixwr (2) rfl av123 (ev1 rfl) (ev1 rfl) (fun _ => rfl) (fun _ => by decide) (Nat.le_of_ble_eq_true rfl)) ?_
        refine zak rfl rfl rfl (zao 4 rfl zr122 rfl) (by simp only [upd, za, zaa]; exact rfl) ?_
        refine zab rfl rfl rfl (zac (.inr rfl) (ev1 rfl)) ?_
        refine walk_s rfl rfl (op_stam rfl tb122 (ev1 rfl) (ev1 rfl) rfl rfl rfl rfl) (by simp only [upd, za, zaa]; exact rfl) ?_
        refine zae ?_
        refine zaf ?_
        refine zad ?_
        refine zab rfl rfl rfl (zap rfl fo115_0 (ev1 rfl)) ?_
        refine zab rfl rfl rfl (zaq rfl tb3 (ev1 rfl) rfl rfl) ?_
        refine zab rfl rfl rfl (zac (.inl rfl) (ev1 rfl)) ?_
        refine zab rfl rfl rfl ((op_shr (2) rfl (ev1 rfl) (ev1 rfl) (fun _ => ⟨rfl, by decide⟩)).cast (d' := .val (.int .i64 16)) (by kernel_rfl)) ?_
        refine zab rfl rfl rfl ((op_iand rfl (ev1 rfl) (ev1 rfl)).cast (d' := .val (.int .i64 0)) (by kernel_rfl)) ?_
        refine zab rfl rfl rfl ((op_eql rfl (ev1 rfl) (ev1 rfl)).cast (d' := .val (.bool false)) (by kernel_rfl)) ?_
        refine zab rfl rfl rfl (zac (.inl rfl) (ev1 rfl)) ?_
        refine zag (gd_t (b := false) rfl rfl rfl) rfl rfl rfl (zas (d := .junk)) ?_
        refine zag (gd_t (b := false) rfl rfl rfl) rfl rfl rfl (zas (d := .junk)) ?_
        refine zag (gd_t (b := false) rfl rfl rfl) rfl rfl rfl (zas (d := .junk)) ?_
        refine zag (gd_t (b := false) rfl rfl rfl) rfl rfl rfl (zas (d := .val (.bool false))) ?_
        refine zag (gd_t (b := false) rfl rfl rfl) rfl rfl rfl (zas (d := .val (.bool false))) ?_
        refine zab rfl rfl rfl ((op_and rfl (ev1 rfl) (ev3 rfl id)).cast (d' := .val (.bool false)) (by rfl)) ?_
        refine zab rfl rfl rfl (zac (.inl rfl) (ev1 rfl)) ?_
        refine zai (gd_f (b := false) rfl rfl rfl) rfl rfl rfl (zap rfl fo115_0 (ev1 rfl)) (by simp only [upd, za, zaa]; exact rfl) ?_
        refine zai (gd_f (b := false) rfl rfl rfl) rfl rfl rfl (zaq rfl tb3 (ev2 rfl) rfl rfl) (by simp only [upd, za, zaa]; exact rfl) ?_
        refine zai (gd_f (b := false) rfl rfl rfl) rfl rfl rfl (zac (.inl rfl) (ev1 rfl)) (by simp only [upd, za, zaa]; exact rfl) ?_
        refine zai (gd_f (b := false) rfl rfl rfl) rfl rfl rfl ((op_shr (2) rfl (ev2 rfl) (ev2 rfl) (fun _ => ⟨rfl, by decide⟩)).cast (d' := .val (.int .i64 16)) (by kernel_rfl)) (by simp only [upd, za, zaa]; exact rfl) ?_
        refine zai (gd_f (b := false) rfl rfl rfl) rfl rfl rfl ((op_iand rfl (ev2 rfl) (ev1 rfl)).cast (d' := .val (.int .i64 0)) (by kernel_rfl)) (by simp only [upd, za, zaa]; exact rfl) ?_
        refine zai (gd_f (b := false) rfl rfl rfl) rfl rfl rfl ((op_eql rfl (ev2 rfl) (ev1 rfl)).cast (d' := .val (.bool true)) (by kernel_rfl)) (by simp only [upd, za, zaa]; exact rfl) ?_
        refine zai (gd_f (b := false) rfl rfl rfl) rfl rfl rfl (zac (.inl rfl) (ev2 rfl)) (by simp only [upd, za, zaa]; exact rfl) ?_
        refine zai (gd_tt (g := true) (b := true) rfl rfl rfl) rfl rfl rfl (zap rfl fo122_2 (ev1 rfl)) (by simp only [upd, za, zaa]; exact rfl) ?_
        refine zai (gd_tt (g := true) (b := true) rfl rfl rfl) rfl rfl rfl (zaq rfl tb119 (ev2 rfl) rfl rfl) (by simp only [upd, za, zaa]; exact rfl) ?_
        refine zai (gd_tt (g := true) (b := true) rfl rfl rfl) rfl rfl rfl (zah [] [0] [] rfl (ev2 rfl) (ec (ev1 rfl) en) rfl rfl (blk2_d _) rfl rfl rfl rfl rfl rfl) (by simp only [upd, za, zaa]; exact rfl) ?_
        refine zai (gd_tt (g := true) (b := true) rfl rfl rfl) rfl rfl rfl (op_not rfl (ev2 rfl)) (by simp only [upd, za, zaa]; exact rfl) ?_
        refine zai (gd_f (b := false) rfl rfl rfl) rfl rfl rfl (op_and rfl (ev2 rfl) (ev3 rfl (fun _ => rfl))) (by simp only [upd, za, zaa]; exact rfl) ?_
        refine zab rfl rfl rfl (op_or rfl (ev1 rfl) (ev3 rfl (fun _ => rfl))) ?_
        refine zae ?_
        refine dwp_cond rfl (fun c7 => ?_) (fun c7 => ?_)
        · refine zaf ?_
          refine zad ?_
          refine zab rfl rfl rfl (zac (.inr rfl) (ev1 rfl)) ?_
          refine zae ?_
          refine zan ?_
          refine kend0 (rs1 rfl (rv_t rfl)) rfl ?_
          have hb : opB o = false := by
            unfold opB
            simp_all [mostK, errz, eqI_dec, errOr_z]
            all_goals (first | (intros; omega) | (intros; simp_all; done))
          rw [hb]
          rfl
        · refine zam ?_
          refine zad ?_
          refine zab rfl rfl rfl ((op_add' rfl (ev1 rfl) (ev1 rfl) (fun _ => IntWalk.i64_in _ (by omega))).cast (d' := .val (.int .i64 3)) (by kernel_rfl)) ?_
          refine zab rfl rfl rfl (zac (.inl rfl) (ev1 rfl)) ?_
          refine zae ?_
          refine dloop_step ?_
          refine zaf ?_
          refine zad ?_
          refine zab rfl rfl rfl ((op_lss rfl (ev1 rfl) (ev1 rfl)).cast (d' := .val (.bool true)) (by kernel_rfl)) ?_
          refine zae ?_
          refine zaf ?_
          refine dwp_if_t rfl (rfl) ?_
          refine zam ?_
          refine zaf ?_
          refine zat ?_
          refine zaf ?_
          refine zaj 1 (by simp only [holes, List.cons_append, List.nil_append]; exact rfl) ?_
          refine zad ?_
          refine zab rfl rfl rfl (zac (.inl rfl) (ev1 rfl)) ?_
          refine zab rfl rfl rfl (op_ixwr (3) rfl av123 (ev1 rfl) (ev1 rfl) (fun _ => rfl) (fun _ => by decide) (Nat.le_of_ble_eq_true rfl)) ?_
          refine zak rfl rfl rfl (zao 5 rfl zr122 rfl) (by simp only [upd, za, zaa]; exact rfl) ?_
          refine zab rfl rfl rfl (zac (.inr rfl) (ev1 rfl)) ?_
          refine walk_s rfl rfl (op_stam rfl tb122 (ev1 rfl) (ev1 rfl) rfl rfl rfl rfl) (by simp only [upd, za, zaa]; exact rfl) ?_
          refine zae ?_
          refine zaf ?_
          refine zad ?_
          refine zab rfl rfl rfl (zap rfl fo115_0 (ev1 rfl)) ?_
          refine zab rfl rfl rfl (zaq rfl tb3 (ev1 rfl) rfl rfl) ?_
          refine zab rfl rfl rfl (zac (.inl rfl) (ev1 rfl)) ?_
          refine zab rfl rfl rfl ((op_shr (3) rfl (ev1 rfl) (ev1 rfl) (fun _ => ⟨rfl, by decide⟩)).cast (d' := .val (.int .i64 8)) (by kernel_rfl)) ?_
          refine zab rfl rfl rfl ((op_iand rfl (ev1 rfl) (ev1 rfl)).cast (d' := .val (.int .i64 0)) (by kernel_rfl)) ?_
          refine zab rfl rfl rfl ((op_eql rfl (ev1 rfl) (ev1 rfl)).cast (d' := .val (.bool false)) (by kernel_rfl)) ?_
          refine zab rfl rfl rfl (zac (.inl rfl) (ev1 rfl)) ?_
          refine zag (gd_t (b := false) rfl rfl rfl) rfl rfl rfl (zas (d := .junk)) ?_
          refine zag (gd_t (b := false) rfl rfl rfl) rfl rfl rfl (zas (d := .junk)) ?_
          refine zag (gd_t (b := false) rfl rfl rfl) rfl rfl rfl (zas (d := .junk)) ?_
          refine zag (gd_t (b := false) rfl rfl rfl) rfl rfl rfl (zas (d := .val (.bool false))) ?_
          refine zag (gd_t (b := false) rfl rfl rfl) rfl rfl rfl (zas (d := .val (.bool false))) ?_
          refine zab rfl rfl rfl ((op_and rfl (ev1 rfl) (ev3 rfl id)).cast (d' := .val (.bool false)) (by rfl)) ?_
          refine zab rfl rfl rfl (zac (.inl rfl) (ev1 rfl)) ?_
          refine zai (gd_f (b := false) rfl rfl rfl) rfl rfl rfl (zap rfl fo115_0 (ev1 rfl)) (by simp only [upd, za, zaa]; exact rfl) ?_
          refine zai (gd_f (b := false) rfl rfl rfl) rfl rfl rfl (zaq rfl tb3 (ev2 rfl) rfl rfl) (by simp only [upd, za, zaa]; exact rfl) ?_
          refine zai (gd_f (b := false) rfl rfl rfl) rfl rfl rfl (zac (.inl rfl) (ev1 rfl)) (by simp only [upd, za, zaa]; exact rfl) ?_
          refine zai (gd_f (b := false) rfl rfl rfl) rfl rfl rfl ((op_shr (3) rfl (ev2 rfl) (ev2 rfl) (fun _ => ⟨rfl, by decide⟩)).cast (d' := .val (.int .i64 8)) (by kernel_rfl)) (by simp only [upd, za, zaa]; exact rfl) ?_
          refine zai (gd_f (b := false) rfl rfl rfl) rfl rfl rfl ((op_iand rfl (ev2 rfl) (ev1 rfl)).cast (d' := .val (.int .i64 0)) (by kernel_rfl)) (by simp only [upd, za, zaa]; exact rfl) ?_
          refine zai (gd_f (b := false) rfl rfl rfl) rfl rfl rfl ((op_eql rfl (ev2 rfl) (ev1 rfl)).cast (d' := .val (.bool true)) (by kernel_rfl)) (by simp only [upd, za, zaa]; exact rfl) ?_
          refine zai (gd_f (b := false) rfl rfl rfl) rfl rfl rfl (zac (.inl rfl) (ev2 rfl)) (by simp only [upd, za, zaa]; exact rfl) ?_
          refine zai (gd_tt (g := true) (b := true) rfl rfl rfl) rfl rfl rfl (zap rfl fo122_2 (ev1 rfl)) (by simp only [upd, za, zaa]; exact rfl) ?_
          refine zai (gd_tt (g := true) (b := true) rfl rfl rfl) rfl rfl rfl (zaq rfl tb119 (ev2 rfl) rfl rfl) (by simp only [upd, za, zaa]; exact rfl) ?_
          refine zai (gd_tt (g := true) (b := true) rfl rfl rfl) rfl rfl rfl (zah [] [0] [] rfl (ev2 rfl) (ec (ev1 rfl) en) rfl rfl (blk3_d _) rfl rfl rfl rfl rfl rfl) (by simp only [upd, za, zaa]; exact rfl) ?_
          refine zai (gd_tt (g := true) (b := true) rfl rfl rfl) rfl rfl rfl (op_not rfl (ev2 rfl)) (by simp only [upd, za, zaa]; exact rfl) ?_
          refine zai (gd_f (b := false) rfl rfl rfl) rfl rfl rfl (op_and rfl (ev2 rfl) (ev3 rfl (fun _ => rfl))) (by simp only [upd, za, zaa]; exact rfl) ?_
          refine zab rfl rfl rfl (op_or rfl (ev1 rfl) (ev3 rfl (fun _ => rfl))) ?_
          refine zae ?_
          refine dwp_cond rfl (fun c9 => ?_) (fun c9 => ?_)
          · refine zaf ?_
            refine zad ?_
            refine zab rfl rfl rfl (zac (.inr rfl) (ev1 rfl)) ?_
            refine zae ?_
            refine zan ?_
            refine kend0 (rs1 rfl (rv_t rfl)) rfl ?_
            have hb : opB o = false := by
              unfold opB
              simp_all [mostK, errz, eqI_dec, errOr_z]
              all_goals (first | (intros; omega) | (intros; simp_all; done))
            rw [hb]
            rfl
          · refine zam ?_
            refine zad ?_
            refine zab rfl rfl rfl ((op_add' rfl (ev1 rfl) (ev1 rfl) (fun _ => IntWalk.i64_in _ (by omega))).cast (d' := .val (.int .i64 4)) (by kernel_rfl)) ?_
            refine zab rfl rfl rfl (zac (.inl rfl) (ev1 rfl)) ?_
            refine zae ?_
            refine dloop_step ?_
            refine zaf ?_
            refine zad ?_
            refine zab rfl rfl rfl ((op_lss rfl (ev1 rfl) (ev1 rfl)).cast (d' := .val (.bool true)) (by kernel_rfl)) ?_
            refine zae ?_
            refine zaf ?_
            refine dwp_if_t rfl (rfl) ?_
            refine zam ?_
            refine zaf ?_
            refine zat ?_
            refine zaf ?_
            refine zaj 1 (by simp only [holes, List.cons_append, List.nil_append]; exact rfl) ?_
            refine zad ?_
            refine zab rfl rfl rfl (zac (.inl rfl) (ev1 rfl)) ?_
            refine zab rfl rfl rfl (op_ixwr (4) rfl av123 (ev1 rfl) (ev1 rfl) (fun _ => rfl) (fun _ => by decide) (Nat.le_of_ble_eq_true rfl)) ?_
            refine zak rfl rfl rfl (zao 6 rfl zr122 rfl) (by simp only [upd, za, zaa]; exact rfl) ?_
            refine zab rfl rfl rfl (zac (.inr rfl) (ev1 rfl)) ?_
            refine walk_s rfl rfl (op_stam rfl tb122 (ev1 rfl) (ev1 rfl) rfl rfl rfl rfl) (by simp only [upd, za, zaa]; exact rfl) ?_
            refine zae ?_
            refine zaf ?_
            refine zad ?_
            refine zab rfl rfl rfl (zap rfl fo115_0 (ev1 rfl)) ?_
            refine zab rfl rfl rfl (zaq rfl tb3 (ev1 rfl) rfl rfl) ?_
            refine zab rfl rfl rfl (zac (.inl rfl) (ev1 rfl)) ?_
            refine zab rfl rfl rfl ((op_shr (4) rfl (ev1 rfl) (ev1 rfl) (fun _ => ⟨rfl, by decide⟩)).cast (d' := .val (.int .i64 4)) (by kernel_rfl)) ?_
            refine zab rfl rfl rfl ((op_iand rfl (ev1 rfl) (ev1 rfl)).cast (d' := .val (.int .i64 0)) (by kernel_rfl)) ?_
            refine zab rfl rfl rfl ((op_eql rfl (ev1 rfl) (ev1 rfl)).cast (d' := .val (.bool false)) (by kernel_rfl)) ?_
            refine zab rfl rfl rfl (zac (.inl rfl) (ev1 rfl)) ?_
            refine zag (gd_t (b := false) rfl rfl rfl) rfl rfl rfl (zas (d := .junk)) ?_
            refine zag (gd_t (b := false) rfl rfl rfl) rfl rfl rfl (zas (d := .junk)) ?_
            refine zag (gd_t (b := false) rfl rfl rfl) rfl rfl rfl (zas (d := .junk)) ?_
            refine zag (gd_t (b := false) rfl rfl rfl) rfl rfl rfl (zas (d := .val (.bool false))) ?_
            refine zag (gd_t (b := false) rfl rfl rfl) rfl rfl rfl (zas (d := .val (.bool false))) ?_
            refine zab rfl rfl rfl ((op_and rfl (ev1 rfl) (ev3 rfl id)).cast (d' := .val (.bool false)) (by rfl)) ?_
            refine zab rfl rfl rfl (zac (.inl rfl) (ev1 rfl)) ?_
            refine zai (gd_f (b := false) rfl rfl rfl) rfl rfl rfl (zap rfl fo115_0 (ev1 rfl)) (by simp only [upd, za, zaa]; exact rfl) ?_
            refine zai (gd_f (b := false) rfl rfl rfl) rfl rfl rfl (zaq rfl tb3 (ev2 rfl) rfl rfl) (by simp only [upd, za, zaa]; exact rfl) ?_
            refine zai (gd_f (b := false) rfl rfl rfl) rfl rfl rfl (zac (.inl rfl) (ev1 rfl)) (by simp only [upd, za, zaa]; exact rfl) ?_
            refine zai (gd_f (b := false) rfl rfl rfl) rfl rfl rfl ((op_shr (4) rfl (ev2 rfl) (ev2 rfl) (fun _ => ⟨rfl, by decide⟩)).cast (d' := .val (.int .i64 4)) (by kernel_rfl)) (by simp only [upd, za, zaa]; exact rfl) ?_
            refine zai (gd_f (b := false) rfl rfl rfl) rfl rfl rfl ((op_iand rfl (ev2 rfl) (ev1 rfl)).cast (d' := .val (.int .i64 0)) (by kernel_rfl)) (by simp only [upd, za, zaa]; exact rfl) ?_
            refine zai (gd_f (b := false) rfl rfl rfl) rfl rfl rfl ((op_eql rfl (ev2 rfl) (ev1 rfl)).cast (d' := .val (.bool true)) (by kernel_rfl)) (by simp only [upd, za, zaa]; exact rfl) ?_
            refine zai (gd_f (b := false) rfl rfl rfl) rfl rfl rfl (zac (.inl rfl) (ev2 rfl)) (by simp only [upd, za, zaa]; exact rfl) ?_
            refine zai (gd_tt (g := true) (b := true) rfl rfl rfl) rfl rfl rfl (zap rfl fo122_2 (ev1 rfl)) (by simp only [upd, za, zaa]; exact rfl) ?_
            refine zai (gd_tt (g := true) (b := true) rfl rfl rfl) rfl rfl rfl (zaq rfl tb119 (ev2 rfl) rfl rfl) (by simp only [upd, za, zaa]; exact rfl) ?_
            refine zai (gd_tt (g := true) (b := true) rfl rfl rfl) rfl rfl rfl (zah [] [0] [] rfl (ev2 rfl) (ec (ev1 rfl) en) rfl rfl (blk4_d _) rfl rfl rfl rfl rfl rfl) (by simp only [upd, za, zaa]; exact rfl) ?_
            refine zai (gd_tt (g := true) (b := true) rfl rfl rfl) rfl rfl rfl (op_not rfl (ev2 rfl)) (by simp only [upd, za, zaa]; exact rfl) ?_
            refine zai (gd_f (b := false) rfl rfl rfl) rfl rfl rfl (op_and rfl (ev2 rfl) (ev3 rfl (fun _ => rfl))) (by simp only [upd, za, zaa]; exact rfl) ?_
            refine zab rfl rfl rfl (op_or rfl (ev1 rfl) (ev3 rfl (fun _ => rfl))) ?_
            refine zae ?_
            refine dwp_cond rfl (fun c11 => ?_) (fun c11 => ?_)
            · refine zaf ?_
              refine zad ?_
              refine zab rfl rfl rfl (zac (.inr rfl) (ev1 rfl)) ?_
              refine zae ?_
              refine zan ?_
              refine kend0 (rs1 rfl (rv_t rfl)) rfl ?_
              have hb : opB o = false := by
                unfold opB
                simp_all [mostK, errz, eqI_dec, errOr_z]
                all_goals (first | (intros; omega) | (intros; simp_all; done))
              rw [hb]
              rfl
            · refine zam ?_
              refine zad ?_
              refine zab rfl rfl rfl ((op_add' rfl (ev1 rfl) (ev1 rfl) (fun _ => IntWalk.i64_in _ (by omega))).cast (d' := .val (.int .i64 5)) (by kernel_rfl)) ?_
              refine zab rfl rfl rfl (zac (.inl rfl) (ev1 rfl)) ?_
              refine zae ?_
              refine dloop_step ?_
              refine zaf ?_
              refine zad ?_
              refine zab rfl rfl rfl ((op_lss rfl (ev1 rfl) (ev1 rfl)).cast (d' := .val (.bool true)) (by kernel_rfl)) ?_
              refine zae ?_
              refine zaf ?_
              refine dwp_if_t rfl (rfl) ?_
              refine zam ?_
              refine zaf ?_
              refine zat ?_
              refine zaf ?_
              refine zaj 1 (by simp only [holes, List.cons_append, List.nil_append]; exact rfl) ?_
              refine zad ?_
              refine zab rfl rfl rfl (zac (.inl rfl) (ev1 rfl)) ?_
              refine zab rfl rfl rfl (op_ixwr (5) rfl av123 (ev1 rfl) (ev1 rfl) (fun _ => rfl) (fun _ => by decide) (Nat.le_of_ble_eq_true rfl)) ?_
              refine zak rfl rfl rfl (zao 7 rfl zr122 rfl) (by simp only [upd, za, zaa]; exact rfl) ?_
              refine zab rfl rfl rfl (zac (.inr rfl) (ev1 rfl)) ?_
              refine walk_s rfl rfl (op_stam rfl tb122 (ev1 rfl) (ev1 rfl) rfl rfl rfl rfl) (by simp only [upd, za, zaa]; exact rfl) ?_
              refine zae ?_
              refine zaf ?_
              refine zad ?_
              refine zab rfl rfl rfl (zap rfl fo115_0 (ev1 rfl)) ?_
              refine zab rfl rfl rfl (zaq rfl tb3 (ev1 rfl) rfl rfl) ?_
              refine zab rfl rfl rfl (zac (.inl rfl) (ev1 rfl)) ?_
              refine zab rfl rfl rfl ((op_shr (5) rfl (ev1 rfl) (ev1 rfl) (fun _ => ⟨rfl, by decide⟩)).cast (d' := .val (.int .i64 2)) (by kernel_rfl)) ?_
              refine zab rfl rfl rfl ((op_iand rfl (ev1 rfl) (ev1 rfl)).cast (d' := .val (.int .i64 0)) (by kernel_rfl)) ?_
              refine zab rfl rfl rfl ((op_eql rfl (ev1 rfl) (ev1 rfl)).cast (d' := .val (.bool false)) (by kernel_rfl)) ?_
              refine zab rfl rfl rfl (zac (.inl rfl) (ev1 rfl)) ?_
              refine zag (gd_t (b := false) rfl rfl rfl) rfl rfl rfl (zas (d := .junk)) ?_
              refine zag (gd_t (b := false) rfl rfl rfl) rfl rfl rfl (zas (d := .junk)) ?_
              refine zag (gd_t (b := false) rfl rfl rfl) rfl rfl rfl (zas (d := .junk)) ?_
              refine zag (gd_t (b := false) rfl rfl rfl) rfl rfl rfl (zas (d := .val (.bool false))) ?_
              refine zag (gd_t (b := false) rfl rfl rfl) rfl rfl rfl (zas (d := .val (.bool false))) ?_
              refine zab rfl rfl rfl ((op_and rfl (ev1 rfl) (ev3 rfl id)).cast (d' := .val (.bool false)) (by rfl)) ?_
              refine zab rfl rfl rfl (zac (.inl rfl) (ev1 rfl)) ?_
              refine zai (gd_f (b := false) rfl rfl rfl) rfl rfl rfl (zap rfl fo115_0 (ev1 rfl)) (by simp only [upd, za, zaa]; exact rfl) ?_
              refine zai (gd_f (b := false) rfl rfl rfl) rfl rfl rfl (zaq rfl tb3 (ev2 rfl) rfl rfl) (by simp only [upd, za, zaa]; exact rfl) ?_
              refine zai (gd_f (b := false) rfl rfl rfl) rfl rfl rfl (zac (.inl rfl) (ev1 rfl)) (by simp only [upd, za, zaa]; exact rfl) ?_
              refine zai (gd_f (b := false) rfl rfl rfl) rfl rfl rfl ((op_shr (5) rfl (ev2 rfl) (ev2 rfl) (fun _ => ⟨rfl, by decide⟩)).cast (d' := .val (.int .i64 2)) (by kernel_rfl)) (by simp only [upd, za, zaa]; exact rfl) ?_
              refine zai (gd_f (b := false) rfl rfl rfl) rfl rfl rfl ((op_iand rfl (ev2 rfl) (ev1 rfl)).cast (d' := .val (.int .i64 0)) (by kernel_rfl)) (by simp only [upd, za, zaa]; exact rfl) ?_
              refine zai (gd_f (b := false) rfl rfl rfl) rfl rfl rfl ((op_eql rfl (ev2 rfl) (ev1 rfl)).cast (d' := .val (.bool true)) (by kernel_rfl)) (by simp only [upd, za, zaa]; exact rfl) ?_
              refine zai (gd_f (b := false) rfl rfl rfl) rfl rfl rfl (zac (.inl rfl) (ev2 rfl)) (by simp only [upd, za, zaa]; exact rfl) ?_
              refine zai (gd_tt (g := true) (b := true) rfl rfl rfl) rfl rfl rfl (zap rfl fo122_2 (ev1 rfl)) (by simp only [upd, za, zaa]; exact rfl) ?_
              refine zai (gd_tt (g := true) (b := true) rfl rfl rfl) rfl rfl rfl (zaq rfl tb119 (ev2 rfl) rfl rfl) (by simp only [upd, za, zaa]; exact rfl) ?_
              refine zai (gd_tt (g := true) (b := true) rfl rfl rfl) rfl rfl rfl (zah [] [0] [] rfl (ev2 rfl) (ec (ev1 rfl) en) rfl rfl (blk5_d _) rfl rfl rfl rfl rfl rfl) (by simp only [upd, za, zaa]; exact rfl) ?_
              refine zai (gd_tt (g := true) (b := true) rfl rfl rfl) rfl rfl rfl (op_not rfl (ev2 rfl)) (by simp only [upd, za, zaa]; exact rfl) ?_
              refine zai (gd_f (b := false) rfl rfl rfl) rfl rfl rfl (op_and rfl (ev2 rfl) (ev3 rfl (fun _ => rfl))) (by simp only [upd, za, zaa]; exact rfl) ?_
              refine zab rfl rfl rfl (op_or rfl (ev1 rfl) (ev3 rfl (fun _ => rfl))) ?_
              refine zae ?_
              refine dwp_cond rfl (fun c13 => ?_) (fun c13 => ?_)
              · refine zaf ?_
                refine zad ?_
                refine zab rfl rfl rfl (zac (.inr rfl) (ev1 rfl)) ?_
                refine zae ?_
                refine zan ?_
                refine kend0 (rs1 rfl (rv_t rfl)) rfl ?_
                have hb : opB o = false := by
                  unfold opB
                  simp_all [mostK, errz, eqI_dec, errOr_z]
                  all_goals (first | (intros; omega) | (intros; simp_all; done))
                rw [hb]
                rfl
              · refine zam ?_
                refine zad ?_
                refine zab rfl rfl rfl ((op_add' rfl (ev1 rfl) (ev1 rfl) (fun _ => IntWalk.i64_in _ (by omega))).cast (d' := .val (.int .i64 6)) (by kernel_rfl)) ?_
                refine zab rfl rfl rfl (zac (.inl rfl) (ev1 rfl)) ?_
                refine zae ?_
                refine dloop_step ?_
                refine zaf ?_
                refine zad ?_
                refine zab rfl rfl rfl ((op_lss rfl (ev1 rfl) (ev1 rfl)).cast (d' := .val (.bool true)) (by kernel_rfl)) ?_
                refine zae ?_
                refine zaf ?_
                refine dwp_if_t rfl (rfl) ?_
                refine zam ?_
                refine zaf ?_
                refine zat ?_
                refine zaf ?_
                refine zaj 1 (by simp only [holes, List.cons_append, List.nil_append]; exact rfl) ?_
                refine zad ?_
                refine zab rfl rfl rfl (zac (.inl rfl) (ev1 rfl)) ?_
                refine zab rfl rfl rfl (op_ixwr (6) rfl av123 (ev1 rfl) (ev1 rfl) (fun _ => rfl) (fun _ => by decide) (Nat.le_of_ble_eq_true rfl)) ?_
                refine zak rfl rfl rfl (zao 8 rfl zr122 rfl) (by simp only [upd, za, zaa]; exact rfl) ?_
                refine zab rfl rfl rfl (zac (.inr rfl) (ev1 rfl)) ?_
                refine walk_s rfl rfl (op_stam rfl tb122 (ev1 rfl) (ev1 rfl) rfl rfl rfl rfl) (by simp only [upd, za, zaa]; exact rfl) ?_
                refine zae ?_
                refine zaf ?_
                refine zad ?_
                refine zab rfl rfl rfl (zap rfl fo115_0 (ev1 rfl)) ?_
                refine zab rfl rfl rfl (zaq rfl tb3 (ev1 rfl) rfl rfl) ?_
                refine zab rfl rfl rfl (zac (.inl rfl) (ev1 rfl)) ?_
                refine zab rfl rfl rfl ((op_shr (6) rfl (ev1 rfl) (ev1 rfl) (fun _ => ⟨rfl, by decide⟩)).cast (d' := .val (.int .i64 1)) (by kernel_rfl)) ?_
                refine zab rfl rfl rfl ((op_iand rfl (ev1 rfl) (ev1 rfl)).cast (d' := .val (.int .i64 1)) (by kernel_rfl)) ?_
                refine zab rfl rfl rfl ((op_eql rfl (ev1 rfl) (ev1 rfl)).cast (d' := .val (.bool true)) (by kernel_rfl)) ?_
                refine zab rfl rfl rfl (zac (.inl rfl) (ev1 rfl)) ?_
                refine zai (gd_t (b := true) rfl rfl rfl) rfl rfl rfl (zap rfl fo122_1 (ev1 rfl)) (by simp only [upd, za, zaa]; exact rfl) ?_
                refine zai (gd_t (b := true) rfl rfl rfl) rfl rfl rfl (zaq rfl tb118 (ev2 rfl) rfl rfl) (by simp only [upd, za, zaa]; exact rfl) ?_
                refine zai (gd_t (b := true) rfl rfl rfl) rfl rfl rfl (op_ldmw rfl tb115 (ev1 rfl) rfl rfl) (by simp only [upd, za, zaa]; exact rfl) ?_
                refine zai (gd_t (b := true) rfl rfl rfl) rfl rfl rfl (zah [] [0] [] rfl (ev2 rfl) (ec (ev2 rfl) (ec (ev1 rfl) en)) rfl rfl (fit6_d _ _ _ _ _) rfl rfl rfl rfl rfl rfl) (by simp only [upd, za, zaa]; exact rfl) ?_
                refine zai (gd_t (b := true) rfl rfl rfl) rfl rfl rfl (op_not rfl (ev2 rfl)) (by simp only [upd, za, zaa]; exact rfl) ?_
                refine zab rfl rfl rfl (op_and rfl (ev1 rfl) (ev3 rfl (fun _ => rfl))) ?_
                refine zab rfl rfl rfl (zac (.inl rfl) (ev1 rfl)) ?_
                refine zag (gd_f rfl rfl rfl) rfl rfl rfl (zap rfl fo115_0 (ev1 rfl)) ?_
                refine zag (gd_f rfl rfl rfl) rfl rfl rfl (zaq rfl tb3 (ev2 rfl) rfl rfl) ?_
                refine zag (gd_f rfl rfl rfl) rfl rfl rfl (zac (.inl rfl) (ev1 rfl)) ?_
                refine zag (gd_f rfl rfl rfl) rfl rfl rfl ((op_shr (6) rfl (ev2 rfl) (ev2 rfl) (fun _ => ⟨rfl, by decide⟩)).cast (d' := .val (.int .i64 1)) (by kernel_rfl)) ?_
                refine zag (gd_f rfl rfl rfl) rfl rfl rfl ((op_iand rfl (ev2 rfl) (ev1 rfl)).cast (d' := .val (.int .i64 1)) (by kernel_rfl)) ?_
                refine zag (gd_f rfl rfl rfl) rfl rfl rfl ((op_eql rfl (ev2 rfl) (ev1 rfl)).cast (d' := .val (.bool false)) (by kernel_rfl)) ?_
                refine zag (gd_f rfl rfl rfl) rfl rfl rfl (zac (.inl rfl) (ev2 rfl)) ?_
                refine zag (gd_tt rfl rfl rfl) rfl rfl rfl (zap rfl fo122_2 (ev1 rfl)) ?_
                refine zag (gd_tt rfl rfl rfl) rfl rfl rfl (zaq rfl tb119 (ev2 rfl) rfl rfl) ?_
                refine zag (gd_tt rfl rfl rfl) rfl rfl rfl (zah [] [0] [] rfl (ev2 rfl) (ec (ev1 rfl) en) rfl rfl (blk6_d _) rfl rfl rfl rfl rfl rfl) ?_
                refine zag (gd_tt rfl rfl rfl) rfl rfl rfl (op_not rfl (ev2 rfl)) ?_
                refine zag (gd_f rfl rfl rfl) rfl rfl rfl ((op_and rfl (ev2 rfl) (ev2 rfl)).cast (d' := .val (.bool false)) (by rfl)) ?_
                refine zab rfl rfl rfl (op_or rfl (ev1 rfl) (ev3 rfl id)) ?_
                refine zae ?_
                refine dwp_cond rfl (fun c15 => ?_) (fun c15 => ?_)
                · refine zaf ?_
                  refine zad ?_
                  refine zab rfl rfl rfl (zac (.inr rfl) (ev1 rfl)) ?_
                  refine zae ?_
                  refine zan ?_
                  refine kend0 (rs1 rfl (rv_t rfl)) rfl ?_
                  have hb : opB o = false := by
                    unfold opB
                    simp_all [mostK, errz, eqI_dec, errOr_z]
                    all_goals (first | (intros; omega) | (intros; simp_all; done))
                  rw [hb]
                  rfl
                · refine zam ?_
                  refine zad ?_
                  refine zab rfl rfl rfl ((op_add' rfl (ev1 rfl) (ev1 rfl) (fun _ => IntWalk.i64_in _ (by omega))).cast (d' := .val (.int .i64 7)) (by kernel_rfl)) ?_
                  refine zab rfl rfl rfl (zac (.inl rfl) (ev1 rfl)) ?_
                  refine zae ?_
                  refine dloop_step ?_
                  refine zaf ?_
                  refine zad ?_
                  refine zab rfl rfl rfl ((op_lss rfl (ev1 rfl) (ev1 rfl)).cast (d' := .val (.bool true)) (by kernel_rfl)) ?_
                  refine zae ?_
                  refine zaf ?_
                  refine dwp_if_t rfl (rfl) ?_
                  refine zam ?_
                  refine zaf ?_
                  refine zat ?_
                  refine zaf ?_
                  refine zaj 1 (by simp only [holes, List.cons_append, List.nil_append]; exact rfl) ?_
                  refine zad ?_
                  refine zab rfl rfl rfl (zac (.inl rfl) (ev1 rfl)) ?_
                  refine zab rfl rfl rfl (op_ixwr (7) rfl av123 (ev1 rfl) (ev1 rfl) (fun _ => rfl) (fun _ => by decide) (Nat.le_of_ble_eq_true rfl)) ?_
                  refine zak rfl rfl rfl (zao 9 rfl zr122 rfl) (by simp only [upd, za, zaa]; exact rfl) ?_
                  refine zab rfl rfl rfl (zac (.inr rfl) (ev1 rfl)) ?_
                  refine walk_s rfl rfl (op_stam rfl tb122 (ev1 rfl) (ev1 rfl) rfl rfl rfl rfl) (by simp only [upd, za, zaa]; exact rfl) ?_
                  refine zae ?_
                  refine zaf ?_
                  refine zad ?_
                  refine zab rfl rfl rfl (zap rfl fo115_0 (ev1 rfl)) ?_
                  refine zab rfl rfl rfl (zaq rfl tb3 (ev1 rfl) rfl rfl) ?_
                  refine zab rfl rfl rfl (zac (.inl rfl) (ev1 rfl)) ?_
                  refine zab rfl rfl rfl ((op_shr (7) rfl (ev1 rfl) (ev1 rfl) (fun _ => ⟨rfl, by decide⟩)).cast (d' := .val (.int .i64 0)) (by kernel_rfl)) ?_
                  refine zab rfl rfl rfl ((op_iand rfl (ev1 rfl) (ev1 rfl)).cast (d' := .val (.int .i64 0)) (by kernel_rfl)) ?_
                  refine zab rfl rfl rfl ((op_eql rfl (ev1 rfl) (ev1 rfl)).cast (d' := .val (.bool false)) (by kernel_rfl)) ?_
                  refine zab rfl rfl rfl (zac (.inl rfl) (ev1 rfl)) ?_
                  refine zag (gd_t (b := false) rfl rfl rfl) rfl rfl rfl (zas (d := .junk)) ?_
                  refine zag (gd_t (b := false) rfl rfl rfl) rfl rfl rfl (zas (d := .junk)) ?_
                  refine zag (gd_t (b := false) rfl rfl rfl) rfl rfl rfl (zas (d := .junk)) ?_
                  refine zag (gd_t (b := false) rfl rfl rfl) rfl rfl rfl (zas (d := .val (.bool false))) ?_
                  refine zag (gd_t (b := false) rfl rfl rfl) rfl rfl rfl (zas (d := .val (.bool false))) ?_
                  refine zab rfl rfl rfl ((op_and rfl (ev1 rfl) (ev3 rfl id)).cast (d' := .val (.bool false)) (by rfl)) ?_
                  refine zab rfl rfl rfl (zac (.inl rfl) (ev1 rfl)) ?_
                  refine zai (gd_f (b := false) rfl rfl rfl) rfl rfl rfl (zap rfl fo115_0 (ev1 rfl)) (by simp only [upd, za, zaa]; exact rfl) ?_
                  refine zai (gd_f (b := false) rfl rfl rfl) rfl rfl rfl (zaq rfl tb3 (ev2 rfl) rfl rfl) (by simp only [upd, za, zaa]; exact rfl) ?_
                  refine zai (gd_f (b := false) rfl rfl rfl) rfl rfl rfl (zac (.inl rfl) (ev1 rfl)) (by simp only [upd, za, zaa]; exact rfl) ?_
                  refine zai (gd_f (b := false) rfl rfl rfl) rfl rfl rfl ((op_shr (7) rfl (ev2 rfl) (ev2 rfl) (fun _ => ⟨rfl, by decide⟩)).cast (d' := .val (.int .i64 0)) (by kernel_rfl)) (by simp only [upd, za, zaa]; exact rfl) ?_
                  refine zai (gd_f (b := false) rfl rfl rfl) rfl rfl rfl ((op_iand rfl (ev2 rfl) (ev1 rfl)).cast (d' := .val (.int .i64 0)) (by kernel_rfl)) (by simp only [upd, za, zaa]; exact rfl) ?_
                  refine zai (gd_f (b := false) rfl rfl rfl) rfl rfl rfl ((op_eql rfl (ev2 rfl) (ev1 rfl)).cast (d' := .val (.bool true)) (by kernel_rfl)) (by simp only [upd, za, zaa]; exact rfl) ?_
                  refine zai (gd_f (b := false) rfl rfl rfl) rfl rfl rfl (zac (.inl rfl) (ev2 rfl)) (by simp only [upd, za, zaa]; exact rfl) ?_
                  refine zai (gd_tt (g := true) (b := true) rfl rfl rfl) rfl rfl rfl (zap rfl fo122_2 (ev1 rfl)) (by simp only [upd, za, zaa]; exact rfl) ?_
                  refine zai (gd_tt (g := true) (b := true) rfl rfl rfl) rfl rfl rfl (zaq rfl tb119 (ev2 rfl) rfl rfl) (by simp only [upd, za, zaa]; exact rfl) ?_
                  refine zai (gd_tt (g := true) (b := true) rfl rfl rfl) rfl rfl rfl (zah [] [0] [] rfl (ev2 rfl) (ec (ev1 rfl) en) rfl rfl (blk7_d _) rfl rfl rfl rfl rfl rfl) (by simp only [upd, za, zaa]; exact rfl) ?_
                  refine zai (gd_tt (g := true) (b := true) rfl rfl rfl) rfl rfl rfl (op_not rfl (ev2 rfl)) (by simp only [upd, za, zaa]; exact rfl) ?_
                  refine zai (gd_f (b := false) rfl rfl rfl) rfl rfl rfl (op_and rfl (ev2 rfl) (ev3 rfl (fun _ => rfl))) (by simp only [upd, za, zaa]; exact rfl) ?_
                  refine zab rfl rfl rfl (op_or rfl (ev1 rfl) (ev3 rfl (fun _ => rfl))) ?_
                  refine zae ?_
                  refine dwp_cond rfl (fun c17 => ?_) (fun c17 => ?_)
                  · refine zaf ?_
                    refine zad ?_
                    refine zab rfl rfl rfl (zac (.inr rfl) (ev1 rfl)) ?_
                    refine zae ?_
                    refine zan ?_
                    refine kend0 (rs1 rfl (rv_t rfl)) rfl ?_
                    have hb : opB o = false := by
                      unfold opB
                      simp_all [mostK, errz, eqI_dec, errOr_z]
                      all_goals (first | (intros; omega) | (intros; simp_all; done))
                    rw [hb]
                    rfl
                  · refine zam ?_
                    refine zad ?_
                    refine zab rfl rfl rfl ((op_add' rfl (ev1 rfl) (ev1 rfl) (fun _ => IntWalk.i64_in _ (by omega))).cast (d' := .val (.int .i64 8)) (by kernel_rfl)) ?_
                    refine zab rfl rfl rfl (zac (.inl rfl) (ev1 rfl)) ?_
                    refine zae ?_
                    refine dloop_step ?_
                    refine zaf ?_
                    refine zad ?_
                    refine zab rfl rfl rfl ((op_lss rfl (ev1 rfl) (ev1 rfl)).cast (d' := .val (.bool false)) (by kernel_rfl)) ?_
                    refine zae ?_
                    refine zaf ?_
                    refine dwp_if_f rfl (rfl) ?_
                    refine dwp_exit ?_
                    refine zaf ?_
                    refine zad ?_
                    refine zab rfl rfl rfl (zac (.inr rfl) (ev1 rfl)) ?_
                    refine zae ?_
                    refine zan ?_
                    refine kend0 (rs1 rfl (rv_t rfl)) rfl ?_
                    have hb : opB o = true := by
                      unfold opB
                      simp_all [mostK, errz, eqI_dec, errOr_z]
                      all_goals (first | (intros; omega) | (intros; simp_all; done))
                    rw [hb]
                    rfl
set_option maxRecDepth 4000 in
set_option maxHeartbeats 1000000 in
theorem opc_c78 (o : OpM) (pf : FuncId) (hk : o.kd = 7 ∨ o.kd = 8) (hK : DFun Tryz.prog 62 [.val (.int .i64 o.kd)] [] (.tup [.agg [iD 128, iD 0, .val .nilFunc, .val .nilFunc], .val (.bool true)]) []) : DFun Tryz.prog 29 [.agg (opD o)] [] (.val (.int .i64 (errOr (opB o) 220))) [] := by
  refine zal (N := 54) 0 (by kernel_rfl) Tryz.func29 rfl rfl rfl (by simp only [fr0, Nat.zero_add, Nat.reduceAdd]; exact rfl) rfl fun s0 hs0 => ?_
  refine zaf ?_
  refine zaj 1 (by simp only [holes, List.cons_append, List.nil_append]; exact rfl) ?_
  refine zad ?_
  refine zak rfl rfl rfl (op_boxam 0 rfl (ev1 rfl) rfl) (by simp only [upd, za, zaa]; exact rfl) ?_
  refine zab rfl rfl rfl (zac (.inr rfl) (ev1 rfl)) ?_
  refine zae ?_
  refine zaf ?_
  refine zaj 1 (by simp only [holes, List.cons_append, List.nil_append]; exact rfl) ?_
  refine zad ?_
  refine zab rfl rfl rfl (zap rfl fo47_1 (ev1 rfl)) ?_
  refine zab rfl rfl rfl (zaq rfl tb3 (ev1 rfl) rfl rfl) ?_
  refine zab rfl rfl rfl (zah [] [] [] rfl (ev1 rfl) (ec (ev1 rfl) en) rfl rfl (hK) rfl rfl rfl rfl rfl rfl) ?_
  refine zab rfl rfl rfl (zac (.inl rfl) (ev1 rfl)) ?_
  refine zab rfl rfl rfl (zar rfl (ev1 rfl) rfl) ?_
  refine zab rfl rfl rfl (zar rfl (ev1 rfl) rfl) ?_
  refine zak rfl rfl rfl (zao 1 rfl zr115 rfl) (by simp only [upd, za, zaa]; exact rfl) ?_
  refine walk_s rfl rfl (op_stam rfl tb115 (ev1 rfl) (ev1 rfl) rfl rfl rfl rfl) (by simp only [upd, za, zaa]; exact rfl) ?_
  refine zab rfl rfl rfl (zac (.inr rfl) (ev1 rfl)) ?_
  refine zae ?_
  refine zaf ?_
  refine zaf ?_
  refine zad ?_
  refine zab rfl rfl rfl (zac (.inl rfl) (ev1 rfl)) ?_
  refine zab rfl rfl rfl ((op_not rfl (ev1 rfl)).cast (d' := .val (.bool false)) (by kernel_rfl)) ?_
  refine zab rfl rfl rfl (zac (.inl rfl) (ev1 rfl)) ?_
  refine zai (gd_f (b := false) rfl rfl rfl) rfl rfl rfl (zap rfl fo47_0 (ev1 rfl)) (by simp only [upd, za, zaa]; exact rfl) ?_
  refine zai (gd_f (b := false) rfl rfl rfl) rfl rfl rfl (op_ldmv (R := [_, _, _]) rfl tb29 (ev2 rfl) rfl rfl rfl) (by simp only [upd, za, zaa]; exact rfl) ?_
  refine zai (gd_f (b := false) rfl rfl rfl) rfl rfl rfl (zah [] [] [] rfl (ev1 rfl) (ec (ev2 rfl) en) rfl rfl (idCheck_d _) rfl rfl rfl rfl rfl rfl) (by simp only [upd, za, zaa]; exact rfl) ?_
  refine zai (gd_f (b := false) rfl rfl rfl) rfl rfl rfl (op_neq rfl (ev2 rfl) (ev1 rfl)) (by simp only [upd, za, zaa]; exact rfl) ?_
  refine zab rfl rfl rfl (op_or rfl (ev1 rfl) (ev3 rfl (fun _ => rfl))) ?_
  refine zae ?_
  refine dwp_cond rfl (fun c1 => ?_) (fun c1 => ?_)
  · refine zaf ?_
    refine zad ?_
    refine zab rfl rfl rfl (zac (.inr rfl) (ev1 rfl)) ?_
    refine zae ?_
    refine zan ?_
    refine kend0 (rs1 rfl (rv_t rfl)) rfl ?_
    rcases hk with hk | hk
    all_goals
      have hb : opB o = false := by
        unfold opB
        simp_all [mostK, errz, eqI_dec, errOr_z]
        all_goals (first | (intros; omega) | (intros; simp_all; done))
      rw [hb]
      rfl
  · refine zam ?_
    refine zaf ?_
    refine zaf ?_
    refine zad ?_
    refine zab rfl rfl rfl (zah [] [] [] rfl (ev1 rfl) en rfl rfl (fields_d) rfl rfl rfl rfl rfl rfl) ?_
    refine zab rfl rfl rfl (zac (.inl rfl) (ev1 rfl)) ?_
    refine zae ?_
    refine zat ?_
    refine dwp_dloop (dloop_step ?_)
    refine zaf ?_
    refine zad ?_
    refine zab rfl rfl rfl ((op_lss rfl (ev1 rfl) (ev1 rfl)).cast (d' := .val (.bool true)) (by kernel_rfl)) ?_
    refine zae ?_
    refine zaf ?_
    refine dwp_if_t rfl (rfl) ?_
    refine zam ?_
    refine zaf ?_
    refine zat ?_
    refine zaf ?_
    refine zaj 1 (by simp only [holes, List.cons_append, List.nil_append]; exact rfl) ?_
    refine zad ?_
    refine zab rfl rfl rfl (zac (.inl rfl) (ev1 rfl)) ?_
    refine zab rfl rfl rfl (op_ixwr (0) rfl av123 (ev1 rfl) (ev1 rfl) (fun _ => rfl) (fun _ => by decide) (Nat.le_of_ble_eq_true rfl)) ?_
    refine zak rfl rfl rfl (zao 2 rfl zr122 rfl) (by simp only [upd, za, zaa]; exact rfl) ?_
    refine zab rfl rfl rfl (zac (.inr rfl) (ev1 rfl)) ?_
    refine walk_s rfl rfl (op_stam rfl tb122 (ev1 rfl) (ev1 rfl) rfl rfl rfl rfl) (by simp only [upd, za, zaa]; exact rfl) ?_
    refine zae ?_
    refine zaf ?_
    refine zad ?_
    refine zab rfl rfl rfl (zap rfl fo115_0 (ev1 rfl)) ?_
    refine zab rfl rfl rfl (zaq rfl tb3 (ev1 rfl) rfl rfl) ?_
    refine zab rfl rfl rfl (zac (.inl rfl) (ev1 rfl)) ?_
    refine zab rfl rfl rfl ((op_shr (0) rfl (ev1 rfl) (ev1 rfl) (fun _ => ⟨rfl, by decide⟩)).cast (d' := .val (.int .i64 128)) (by kernel_rfl)) ?_
    refine zab rfl rfl rfl ((op_iand rfl (ev1 rfl) (ev1 rfl)).cast (d' := .val (.int .i64 0)) (by kernel_rfl)) ?_
    refine zab rfl rfl rfl ((op_eql rfl (ev1 rfl) (ev1 rfl)).cast (d' := .val (.bool false)) (by kernel_rfl)) ?_
    refine zab rfl rfl rfl (zac (.inl rfl) (ev1 rfl)) ?_
    refine zag (gd_t (b := false) rfl rfl rfl) rfl rfl rfl (zas (d := .junk)) ?_
    refine zag (gd_t (b := false) rfl rfl rfl) rfl rfl rfl (zas (d := .junk)) ?_
    refine zag (gd_t (b := false) rfl rfl rfl) rfl rfl rfl (zas (d := .junk)) ?_
    refine zag (gd_t (b := false) rfl rfl rfl) rfl rfl rfl (zas (d := .val (.bool false))) ?_
    refine zag (gd_t (b := false) rfl rfl rfl) rfl rfl rfl (zas (d := .val (.bool false))) ?_
    refine zab rfl rfl rfl ((op_and rfl (ev1 rfl) (ev3 rfl id)).cast (d' := .val (.bool false)) (by rfl)) ?_
    refine zab rfl rfl rfl (zac (.inl rfl) (ev1 rfl)) ?_
    refine zai (gd_f (b := false) rfl rfl rfl) rfl rfl rfl (zap rfl fo115_0 (ev1 rfl)) (by simp only [upd, za, zaa]; exact rfl) ?_
    refine zai (gd_f (b := false) rfl rfl rfl) rfl rfl rfl (zaq rfl tb3 (ev2 rfl) rfl rfl) (by simp only [upd, za, zaa]; exact rfl) ?_
    refine zai (gd_f (b := false) rfl rfl rfl) rfl rfl rfl (zac (.inl rfl) (ev1 rfl)) (by simp only [upd, za, zaa]; exact rfl) ?_
    refine zai (gd_f (b := false) rfl rfl rfl) rfl rfl rfl ((op_shr (0) rfl (ev2 rfl) (ev2 rfl) (fun _ => ⟨rfl, by decide⟩)).cast (d' := .val (.int .i64 128)) (by kernel_rfl)) (by simp only [upd, za, zaa]; exact rfl) ?_
    refine zai (gd_f (b := false) rfl rfl rfl) rfl rfl rfl ((op_iand rfl (ev2 rfl) (ev1 rfl)).cast (d' := .val (.int .i64 0)) (by kernel_rfl)) (by simp only [upd, za, zaa]; exact rfl) ?_
    refine zai (gd_f (b := false) rfl rfl rfl) rfl rfl rfl ((op_eql rfl (ev2 rfl) (ev1 rfl)).cast (d' := .val (.bool true)) (by kernel_rfl)) (by simp only [upd, za, zaa]; exact rfl) ?_
    refine zai (gd_f (b := false) rfl rfl rfl) rfl rfl rfl (zac (.inl rfl) (ev2 rfl)) (by simp only [upd, za, zaa]; exact rfl) ?_
    refine zai (gd_tt (g := true) (b := true) rfl rfl rfl) rfl rfl rfl (zap rfl fo122_2 (ev1 rfl)) (by simp only [upd, za, zaa]; exact rfl) ?_
    refine zai (gd_tt (g := true) (b := true) rfl rfl rfl) rfl rfl rfl (zaq rfl tb119 (ev2 rfl) rfl rfl) (by simp only [upd, za, zaa]; exact rfl) ?_
    refine zai (gd_tt (g := true) (b := true) rfl rfl rfl) rfl rfl rfl (zah [] [0] [] rfl (ev2 rfl) (ec (ev1 rfl) en) rfl rfl (blk0_d _) rfl rfl rfl rfl rfl rfl) (by simp only [upd, za, zaa]; exact rfl) ?_
    refine zai (gd_tt (g := true) (b := true) rfl rfl rfl) rfl rfl rfl (op_not rfl (ev2 rfl)) (by simp only [upd, za, zaa]; exact rfl) ?_
    refine zai (gd_f (b := false) rfl rfl rfl) rfl rfl rfl (op_and rfl (ev2 rfl) (ev3 rfl (fun _ => rfl))) (by simp only [upd, za, zaa]; exact rfl) ?_
    refine zab rfl rfl rfl (op_or rfl (ev1 rfl) (ev3 rfl (fun _ => rfl))) ?_
    refine zae ?_
    refine dwp_cond rfl (fun c3 => ?_) (fun c3 => ?_)
    · refine zaf ?_
      refine zad ?_
      refine zab rfl rfl rfl (zac (.inr rfl) (ev1 rfl)) ?_
      refine zae ?_
      refine zan ?_
      refine kend0 (rs1 rfl (rv_t rfl)) rfl ?_
      rcases hk with hk | hk
      all_goals
        have hb : opB o = false := by
          unfold opB
          simp_all [mostK, errz, eqI_dec, errOr_z]
          all_goals (first | (intros; omega) | (intros; simp_all; done))
        rw [hb]
        rfl
    · refine zam ?_
      refine zad ?_
      refine zab rfl rfl rfl ((op_add' rfl (ev1 rfl) (ev1 rfl) (fun _ => IntWalk.i64_in _ (by omega))).cast (d' := .val (.int .i64 1)) (by kernel_rfl)) ?_
      refine zab rfl rfl rfl (zac (.inl rfl) (ev1 rfl)) ?_
      refine zae ?_
      refine dloop_step ?_
      refine zaf ?_
      refine zad ?_
      refine zab rfl rfl rfl ((op_lss rfl (ev1 rfl) (ev1 rfl)).cast (d' := .val (.bool true)) (by kernel_rfl)) ?_
      refine zae ?_
      refine zaf ?_
      refine dwp_if_t rfl (rfl) ?_
      refine zam ?_
      refine zaf ?_
      refine zat ?_
      refine zaf ?_
      refine zaj 1 (by simp only [holes, List.cons_append, List.nil_append]; exact rfl) ?_
      refine zad ?_
      refine zab rfl rfl rfl (zac (.inl rfl) (ev1 rfl)) ?_
      refine zab rfl rfl rfl (op_ixwr (1) rfl av123 (ev1 rfl) (ev1 rfl) (fun _ => rfl) (fun _ => by decide) (Nat.le_of_ble_eq_true rfl)) ?_
      refine zak rfl rfl rfl (zao 3 rfl zr122 rfl) (by simp only [upd, za, zaa]; exact rfl) ?_
      refine zab rfl rfl rfl (zac (.inr rfl) (ev1 rfl)) ?_
      refine walk_s rfl rfl (op_stam rfl tb122 (ev1 rfl) (ev1 rfl) rfl rfl rfl rfl) (by simp only [upd, za, zaa]; exact rfl) ?_
      refine zae ?_
      refine zaf ?_
      refine zad ?_
      refine zab rfl rfl rfl (zap rfl fo115_0 (ev1 rfl)) ?_
      refine zab rfl rfl rfl (zaq rfl tb3 (ev1 rfl) rfl rfl) ?_
      refine zab rfl rfl rfl (zac (.inl rfl) (ev1 rfl)) ?_
      refine zab rfl rfl rfl ((op_shr (1) rfl (ev1 rfl) (ev1 rfl) (fun _ => ⟨rfl, by decide⟩)).cast (d' := .val (.int .i64 64)) (by kernel_rfl)) ?_
      refine zab rfl rfl rfl ((op_iand rfl (ev1 rfl) (ev1 rfl)).cast (d' := .val (.int .i64 0)) (by kernel_rfl)) ?_
      refine zab rfl rfl rfl ((op_eql rfl (ev1 rfl) (ev1 rfl)).cast (d' := .val (.bool false)) (by kernel_rfl)) ?_
      refine zab rfl rfl rfl (zac (.inl rfl) (ev1 rfl)) ?_
      refine zag (gd_t (b := false) rfl rfl rfl) rfl rfl rfl (zas (d := .junk)) ?_
      refine zag (gd_t (b := false) rfl rfl rfl) rfl rfl rfl (zas (d := .junk)) ?_
      refine zag (gd_t (b := false) rfl rfl rfl) rfl rfl rfl (zas (d := .junk)) ?_
      refine zag (gd_t (b := false) rfl rfl rfl) rfl rfl rfl (zas (d := .val (.bool false))) ?_
      refine zag (gd_t (b := false) rfl rfl rfl) rfl rfl rfl (zas (d := .val (.bool false))) ?_
      refine zab rfl rfl rfl ((op_and rfl (ev1 rfl) (ev3 rfl id)).cast (d' := .val (.bool false)) (by rfl)) ?_
      refine zab rfl rfl rfl (zac (.inl rfl) (ev1 rfl)) ?_
      refine zai (gd_f (b := false) rfl rfl rfl) rfl rfl rfl (zap rfl fo115_0 (ev1 rfl)) (by simp only [upd, za, zaa]; exact rfl) ?_
      refine zai (gd_f (b := false) rfl rfl rfl) rfl rfl rfl (zaq rfl tb3 (ev2 rfl) rfl rfl) (by simp only [upd, za, zaa]; exact rfl) ?_
      refine zai (gd_f (b := false) rfl rfl rfl) rfl rfl rfl (zac (.inl rfl) (ev1 rfl)) (by simp only [upd, za, zaa]; exact rfl) ?_
      refine zai (gd_f (b := false) rfl rfl rfl) rfl rfl rfl ((op_shr (1) rfl (ev2 rfl) (ev2 rfl) (fun _ => ⟨rfl, by decide⟩)).cast (d' := .val (.int .i64 64)) (by kernel_rfl)) (by simp only [upd, za, zaa]; exact rfl) ?_
      refine zai (gd_f (b := false) rfl rfl rfl) rfl rfl rfl ((op_iand rfl (ev2 rfl) (ev1 rfl)).cast (d' := .val (.int .i64 0)) (by kernel_rfl)) (by simp only [upd, za, zaa]; exact rfl) ?_
      refine zai (gd_f (b := false) rfl rfl rfl) rfl rfl rfl ((op_eql rfl (ev2 rfl) (ev1 rfl)).cast (d' := .val (.bool true)) (by kernel_rfl)) (by simp only [upd, za, zaa]; exact rfl) ?_
      refine zai (gd_f (b := false) rfl rfl rfl) rfl rfl rfl (zac (.inl rfl) (ev2 rfl)) (by simp only [upd, za, zaa]; exact rfl) ?_
      refine zai (gd_tt (g := true) (b := true) rfl rfl rfl) rfl rfl rfl (zap rfl fo122_2 (ev1 rfl)) (by simp only [upd, za, zaa]; exact rfl) ?_
      refine zai (gd_tt (g := true) (b := true) rfl rfl rfl) rfl rfl rfl (zaq rfl tb119 (ev2 rfl) rfl rfl) (by simp only [upd, za, zaa]; exact rfl) ?_
      refine zai (gd_tt (g := true) (b := true) rfl rfl rfl) rfl rfl rfl (zah [] [0] [] rfl (ev2 rfl) (ec (ev1 rfl) en) rfl rfl (blk1_d _) rfl rfl rfl rfl rfl rfl) (by simp only [upd, za, zaa]; exact rfl) ?_
      refine zai (gd_tt (g := true) (b := true) rfl rfl rfl) rfl rfl rfl (op_not rfl (ev2 rfl)) (by simp only [upd, za, zaa]; exact rfl) ?_
      refine zai (gd_f (b := false) rfl rfl rfl) rfl rfl rfl (op_and rfl (ev2 rfl) (ev3 rfl (fun _ => rfl))) (by simp only [upd, za, zaa]; exact rfl) ?_
      refine zab rfl rfl rfl (op_or rfl (ev1 rfl) (ev3 rfl (fun _ => rfl))) ?_
      refine zae ?_
      refine dwp_cond rfl (fun c5 => ?_) (fun c5 => ?_)
      · refine zaf ?_
        refine zad ?_
        refine zab rfl rfl rfl (zac (.inr rfl) (ev1 rfl)) ?_
        refine zae ?_
        refine zan ?_
        refine kend0 (rs1 rfl (rv_t rfl)) rfl ?_
        rcases hk with hk | hk
        all_goals
          have hb : opB o = false := by
            unfold opB
            simp_all [mostK, errz, eqI_dec, errOr_z]
            all_goals (first | (intros; omega) | (intros; simp_all; done))
          rw [hb]
          rfl
      · refine zam ?_
        refine zad ?_
        refine zab rfl rfl rfl ((op_add' rfl (ev1 rfl) (ev1 rfl) (fun _ => IntWalk.i64_in _ (by omega))).cast (d' := .val (.int .i64 2)) (by kernel_rfl)) ?_
        refine zab rfl rfl rfl (zac (.inl rfl) (ev1 rfl)) ?_
        refine zae ?_
        refine dloop_step ?_
        refine zaf ?_
        refine zad ?_
        refine zab rfl rfl rfl ((op_lss rfl (ev1 rfl) (ev1 rfl)).cast (d' := .val (.bool true)) (by kernel_rfl)) ?_
        refine zae ?_
        refine zaf ?_
        refine dwp_if_t rfl (rfl) ?_
        refine zam ?_
        refine zaf ?_
        refine zat ?_
        refine zaf ?_
        refine zaj 1 (by simp only [holes, List.cons_append, List.nil_append]; exact rfl) ?_
        refine zad ?_
        refine zab rfl rfl rfl (zac (.inl rfl) (ev1 rfl)) ?_
        refine zab rfl rfl rfl (op_ixwr (2) rfl av123 (ev1 rfl) (ev1 rfl) (fun _ => rfl) (fun _ => by decide) (Nat.le_of_ble_eq_true rfl)) ?_
        refine zak rfl rfl rfl (zao 4 rfl zr122 rfl) (by simp only [upd, za, zaa]; exact rfl) ?_
        refine zab rfl rfl rfl (zac (.inr rfl) (ev1 rfl)) ?_
        refine walk_s rfl rfl (op_stam rfl tb122 (ev1 rfl) (ev1 rfl) rfl rfl rfl rfl) (by simp only [upd, za, zaa]; exact rfl) ?_
        refine zae ?_
        refine zaf ?_
        refine zad ?_
        refine zab rfl rfl rfl (zap rfl fo115_0 (ev1 rfl)) ?_
        refine zab rfl rfl rfl (zaq rfl tb3 (ev1 rfl) rfl rfl) ?_
        refine zab rfl rfl rfl (zac (.inl rfl) (ev1 rfl)) ?_
        refine zab rfl rfl rfl ((op_shr (2) rfl (ev1 rfl) (ev1 rfl) (fun _ => ⟨rfl, by decide⟩)).cast (d' := .val (.int .i64 32)) (by kernel_rfl)) ?_
        refine zab rfl rfl rfl ((op_iand rfl (ev1 rfl) (ev1 rfl)).cast (d' := .val (.int .i64 0)) (by kernel_rfl)) ?_
        refine zab rfl rfl rfl ((op_eql rfl (ev1 rfl) (ev1 rfl)).cast (d' := .val (.bool false)) (by kernel_rfl)) ?_
        refine zab rfl rfl rfl (zac (.inl rfl) (ev1 rfl)) ?_
        refine zag (gd_t (b := false) rfl rfl rfl) rfl rfl rfl (zas (d := .junk)) ?_
        refine zag (gd_t (b := false) rfl rfl rfl) rfl rfl rfl (zas (d := .junk)) ?_
        refine zag (gd_t (b := false) rfl rfl rfl) rfl rfl rfl (zas (d := .junk)) ?_
        refine zag (gd_t (b := false) rfl rfl rfl) rfl rfl rfl (zas (d := .val (.bool false))) ?_
        refine zag (gd_t (b := false) rfl rfl rfl) rfl rfl rfl (zas (d := .val (.bool false))) ?_
        refine zab rfl rfl rfl ((op_and rfl (ev1 rfl) (ev3 rfl id)).cast (d' := .val (.bool false)) (by rfl)) ?_
        refine zab rfl rfl rfl (zac (.inl rfl) (ev1 rfl)) ?_
        refine zai (gd_f (b := false) rfl rfl rfl) rfl rfl rfl (zap rfl fo115_0 (ev1 rfl)) (by simp only [upd, za, zaa]; exact rfl) ?_
        refine zai (gd_f (b := false) rfl rfl rfl) rfl rfl rfl (zaq rfl tb3 (ev2 rfl) rfl rfl) (by simp only [upd, za, zaa]; exact rfl) ?_
        refine zai (gd_f (b := false) rfl rfl rfl) rfl rfl rfl (zac (.inl rfl) (ev1 rfl)) (by simp only [upd, za, zaa]; exact rfl) ?_
        refine zai (gd_f (b := false) rfl rfl rfl) rfl rfl rfl ((op_shr (2) rfl (ev2 rfl) (ev2 rfl) (fun _ => ⟨rfl, by decide⟩)).cast (d' := .val (.int .i64 32)) (by kernel_rfl)) (by simp only [upd, za, zaa]; exact rfl) ?_
        refine zai (gd_f (b := false) rfl rfl rfl) rfl rfl rfl ((op_iand rfl (ev2 rfl) (ev1 rfl)).cast (d' := .val (.int .i64 0)) (by kernel_rfl)) (by simp only [upd, za, zaa]; exact rfl) ?_
        refine zai (gd_f (b := false) rfl rfl rfl) rfl rfl rfl ((op_eql rfl (ev2 rfl) (ev1 rfl)).cast (d' := .val (.bool true)) (by kernel_rfl)) (by simp only [upd, za, zaa]; exact rfl) ?_
        refine zai (gd_f (b := false) rfl rfl rfl) rfl rfl rfl (zac (.inl rfl) (ev2 rfl)) (by simp only [upd, za, zaa]; exact rfl) ?_
        refine zai (gd_tt (g := true) (b := true) rfl rfl rfl) rfl rfl rfl (zap rfl fo122_2 (ev1 rfl)) (by simp only [upd, za, zaa]; exact rfl) ?_
        refine zai (gd_tt (g := true) (b := true) rfl rfl rfl) rfl rfl rfl (zaq rfl tb119 (ev2 rfl) rfl rfl) (by simp only [upd, za, zaa]; exact rfl) ?_
        refine zai (gd_tt (g := true) (b := true) rfl rfl rfl) rfl rfl rfl (zah [] [0] [] rfl (ev2 rfl) (ec (ev1 rfl) en) rfl rfl (blk2_d _) rfl rfl rfl rfl rfl rfl) (by simp only [upd, za, zaa]; exact rfl) ?_
        refine zai (gd_tt (g := true) (b := true) rfl rfl rfl) rfl rfl rfl (op_not rfl (ev2 rfl)) (by simp only [upd, za, zaa]; exact rfl) ?_
        refine zai (gd_f (b := false) rfl rfl rfl) rfl rfl rfl (op_and rfl (ev2 rfl) (ev3 rfl (fun _ => rfl))) (by simp only [upd, za, zaa]; exact rfl) ?_
        refine zab rfl rfl rfl (op_or rfl (ev1 rfl) (ev3 rfl (fun _ => rfl))) ?_
        refine zae ?_
        refine dwp_cond rfl (fun c7 => ?_) (fun c7 => ?_)
        · refine zaf ?_
          refine zad ?_
          refine zab rfl rfl rfl (zac (.inr rfl) (ev1 rfl)) ?_
          refine zae ?_
          refine zan ?_
          refine kend0 (rs1 rfl (rv_t rfl)) rfl ?_
          rcases hk with hk | hk
          all_goals
            have hb : opB o = false := by
              unfold opB
              simp_all [mostK, errz, eqI_dec, errOr_z]
              all_goals (first | (intros; omega) | (intros; simp_all; done))
            rw [hb]
            rfl
        · refine zam ?_
          refine zad ?_
          refine zab rfl rfl rfl ((op_add' rfl (ev1 rfl) (ev1 rfl) (fun _ => IntWalk.i64_in _ (by omega))).cast (d' := .val (.int .i64 3)) (by kernel_rfl)) ?_
          refine zab rfl rfl rfl (zac (.inl rfl) (ev1 rfl)) ?_
          refine zae ?_
          refine dloop_step ?_
          refine zaf ?_
          refine zad ?_
          refine zab rfl rfl rfl ((op_lss rfl (ev1 rfl) (ev1 rfl)).cast (d' := .val (.bool true)) (by kernel_rfl)) ?_
          refine zae ?_
          refine zaf ?_
          refine dwp_if_t rfl (rfl) ?_
          refine zam ?_
          refine zaf ?_
          refine zat ?_
          refine zaf ?_
          refine zaj 1 (by simp only [holes, List.cons_append, List.nil_append]; exact rfl) ?_
          refine zad ?_
          refine zab rfl rfl rfl (zac (.inl rfl) (ev1 rfl)) ?_
          refine zab rfl rfl rfl (op_ixwr (3) rfl av123 (ev1 rfl) (ev1 rfl) (fun _ => rfl) (fun _ => by decide) (Nat.le_of_ble_eq_true rfl)) ?_
          refine zak rfl rfl rfl (zao 5 rfl zr122 rfl) (by simp only [upd, za, zaa]; exact rfl) ?_
          refine zab rfl rfl rfl (zac (.inr rfl) (ev1 rfl)) ?_
          refine walk_s rfl rfl (op_stam rfl tb122 (ev1 rfl) (ev1 rfl) rfl rfl rfl rfl) (by simp only [upd, za, zaa]; exact rfl) ?_
          refine zae ?_
          refine zaf ?_
          refine zad ?_
          refine zab rfl rfl rfl (zap rfl fo115_0 (ev1 rfl)) ?_
          refine zab rfl rfl rfl (zaq rfl tb3 (ev1 rfl) rfl rfl) ?_
          refine zab rfl rfl rfl (zac (.inl rfl) (ev1 rfl)) ?_
          refine zab rfl rfl rfl ((op_shr (3) rfl (ev1 rfl) (ev1 rfl) (fun _ => ⟨rfl, by decide⟩)).cast (d' := .val (.int .i64 16)) (by kernel_rfl)) ?_
          refine zab rfl rfl rfl ((op_iand rfl (ev1 rfl) (ev1 rfl)).cast (d' := .val (.int .i64 0)) (by kernel_rfl)) ?_
          refine zab rfl rfl rfl ((op_eql rfl (ev1 rfl) (ev1 rfl)).cast (d' := .val (.bool false)) (by kernel_rfl)) ?_
          refine zab rfl rfl rfl (zac (.inl rfl) (ev1 rfl)) ?_
          refine zag (gd_t (b := false) rfl rfl rfl) rfl rfl rfl (zas (d := .junk)) ?_
          refine zag (gd_t (b := false) rfl rfl rfl) rfl rfl rfl (zas (d := .junk)) ?_
          refine zag (gd_t (b := false) rfl rfl rfl) rfl rfl rfl (zas (d := .junk)) ?_
          refine zag (gd_t (b := false) rfl rfl rfl) rfl rfl rfl (zas (d := .val (.bool false))) ?_
          refine zag (gd_t (b := false) rfl rfl rfl) rfl rfl rfl (zas (d := .val (.bool false))) ?_
          refine zab rfl rfl rfl ((op_and rfl (ev1 rfl) (ev3 rfl id)).cast (d' := .val (.bool false)) (by rfl)) ?_
          refine zab rfl rfl rfl (zac (.inl rfl) (ev1 rfl)) ?_
          refine zai (gd_f (b := false) rfl rfl rfl) rfl rfl rfl (zap rfl fo115_0 (ev1 rfl)) (by simp only [upd, za, zaa]; exact rfl) ?_
          refine zai (gd_f (b := false) rfl rfl rfl) rfl rfl rfl (zaq rfl tb3 (ev2 rfl) rfl rfl) (by simp only [upd, za, zaa]; exact rfl) ?_
          refine zai (gd_f (b := false) rfl rfl rfl) rfl rfl rfl (zac (.inl rfl) (ev1 rfl)) (by simp only [upd, za, zaa]; exact rfl) ?_
          refine zai (gd_f (b := false) rfl rfl rfl) rfl rfl rfl ((op_shr (3) rfl (ev2 rfl) (ev2 rfl) (fun _ => ⟨rfl, by decide⟩)).cast (d' := .val (.int .i64 16)) (by kernel_rfl)) (by simp only [upd, za, zaa]; exact rfl) ?_
          refine zai (gd_f (b := false) rfl rfl rfl) rfl rfl rfl ((op_iand rfl (ev2 rfl) (ev1 rfl)).cast (d' := .val (.int .i64 0)) (by kernel_rfl)) (by simp only [upd, za, zaa]; exact rfl) ?_
          refine zai (gd_f (b := false) rfl rfl rfl) rfl rfl rfl ((op_eql rfl (ev2 rfl) (ev1 rfl)).cast (d' := .val (.bool true)) (by kernel_rfl)) (by simp only [upd, za, zaa]; exact rfl) ?_
          refine zai (gd_f (b := false) rfl rfl rfl) rfl rfl rfl (zac (.inl rfl) (ev2 rfl)) (by simp only [upd, za, zaa]; exact rfl) ?_
          refine zai (gd_tt (g := true) (b := true) rfl rfl rfl) rfl rfl rfl (zap rfl fo122_2 (ev1 rfl)) (by simp only [upd, za, zaa]; exact rfl) ?_
          refine zai (gd_tt (g := true) (b := true) rfl rfl rfl) rfl rfl rfl (zaq rfl tb119 (ev2 rfl) rfl rfl) (by simp only [upd, za, zaa]; exact rfl) ?_
          refine zai (gd_tt (g := true) (b := true) rfl rfl rfl) rfl rfl rfl (zah [] [0] [] rfl (ev2 rfl) (ec (ev1 rfl) en) rfl rfl (blk3_d _) rfl rfl rfl rfl rfl rfl) (by simp only [upd, za, zaa]; exact rfl) ?_
          refine zai (gd_tt (g := true) (b := true) rfl rfl rfl) rfl rfl rfl (op_not rfl (ev2 rfl)) (by simp only [upd, za, zaa]; exact rfl) ?_
          refine zai (gd_f (b := false) rfl rfl rfl) rfl rfl rfl (op_and rfl (ev2 rfl) (ev3 rfl (fun _ => rfl))) (by simp only [upd, za, zaa]; exact rfl) ?_
          refine zab rfl rfl rfl (op_or rfl (ev1 rfl) (ev3 rfl (fun _ => rfl))) ?_
          refine zae ?_
          refine dwp_cond rfl (fun c9 => ?_) (fun c9 => ?_)
          · refine zaf ?_
            refine zad ?_
            refine zab rfl rfl rfl (zac (.inr rfl) (ev1 rfl)) ?_
            refine zae ?_
            refine zan ?_
            refine kend0 (rs1 rfl (rv_t rfl)) rfl ?_
            rcases hk with hk | hk
            all_goals
              have hb : opB o = false := by
                unfold opB
                simp_all [mostK, errz, eqI_dec, errOr_z]
                all_goals (first | (intros; omega) | (intros; simp_all; done))
              rw [hb]
              rfl
          · refine zam ?_
            refine zad ?_
            refine zab rfl rfl rfl ((op_add' rfl (ev1 rfl) (ev1 rfl) (fun _ => IntWalk.i64_in _ (by omega))).cast (d' := .val (.int .i64 4)) (by kernel_rfl)) ?_
            refine zab rfl rfl rfl (zac (.inl rfl) (ev1 rfl)) ?_
            refine zae ?_
            refine dloop_step ?_
            refine zaf ?_
            refine zad ?_
            refine zab rfl rfl rfl ((op_lss rfl (ev1 rfl) (ev1 rfl)).cast (d' := .val (.bool true)) (by kernel_rfl)) ?_
            refine zae ?_
            refine zaf ?_
            refine dwp_if_t rfl (rfl) ?_
            refine zam ?_
            refine zaf ?_
            refine zat ?_
            refine zaf ?_
            refine zaj 1 (by simp only [holes, List.cons_append, List.nil_append]; exact rfl) ?_
            refine zad ?_
            refine zab rfl rfl rfl (zac (.inl rfl) (ev1 rfl)) ?_
            refine zab rfl rfl rfl (op_ixwr (4) rfl av123 (ev1 rfl) (ev1 rfl) (fun _ => rfl) (fun _ => by decide) (Nat.le_of_ble_eq_true rfl)) ?_
            refine zak rfl rfl rfl (zao 6 rfl zr122 rfl) (by simp only [upd, za, zaa]; exact rfl) ?_
            refine zab rfl rfl rfl (zac (.inr rfl) (ev1 rfl)) ?_
            refine walk_s rfl rfl (op_stam rfl tb122 (ev1 rfl) (ev1 rfl) rfl rfl rfl rfl) (by simp only [upd, za, zaa]; exact rfl) ?_
            refine zae ?_
            refine zaf ?_
            refine zad ?_
            refine zab rfl rfl rfl (zap rfl fo115_0 (ev1 rfl)) ?_
            refine zab rfl rfl rfl (zaq rfl tb3 (ev1 rfl) rfl rfl) ?_
            refine zab rfl rfl rfl (zac (.inl rfl) (ev1 rfl)) ?_
            refine zab rfl rfl rfl ((op_shr (4) rfl (ev1 rfl) (ev1 rfl) (fun _ => ⟨rfl, by decide⟩)).cast (d' := .val (.int .i64 8)) (by kernel_rfl)) ?_
            refine zab rfl rfl rfl ((op_iand rfl (ev1 rfl) (ev1 rfl)).cast (d' := .val (.int .i64 0)) (by kernel_rfl)) ?_
            refine zab rfl rfl rfl ((op_eql rfl (ev1 rfl) (ev1 rfl)).cast (d' := .val (.bool false)) (by kernel_rfl)) ?_
            refine zab rfl rfl rfl (zac (.inl rfl) (ev1 rfl)) ?_
            refine zag (gd_t (b := false) rfl rfl rfl) rfl rfl rfl (zas (d := .junk)) ?_
            refine zag (gd_t (b := false) rfl rfl rfl) rfl rfl rfl (zas (d := .junk)) ?_
            refine zag (gd_t (b := false) rfl rfl rfl) rfl rfl rfl (zas (d := .junk)) ?_
            refine zag (gd_t (b := false) rfl rfl rfl) rfl rfl rfl (zas (d := .val (.bool false))) ?_
            refine zag (gd_t (b := false) rfl rfl rfl) rfl rfl rfl (zas (d := .val (.bool false))) ?_
            refine zab rfl rfl rfl ((op_and rfl (ev1 rfl) (ev3 rfl id)).cast (d' := .val (.bool false)) (by rfl)) ?_
            refine zab rfl rfl rfl (zac (.inl rfl) (ev1 rfl)) ?_
            refine zai (gd_f (b := false) rfl rfl rfl) rfl rfl rfl (zap rfl fo115_0 (ev1 rfl)) (by simp only [upd, za, zaa]; exact rfl) ?_
            refine zai (gd_f (b := false) rfl rfl rfl) rfl rfl rfl (zaq rfl tb3 (ev2 rfl) rfl rfl) (by simp only [upd, za, zaa]; exact rfl) ?_
            refine zai (gd_f (b := false) rfl rfl rfl) rfl rfl rfl (zac (.inl rfl) (ev1 rfl)) (by simp only [upd, za, zaa]; exact rfl) ?_
            refine zai (gd_f (b := false) rfl rfl rfl) rfl rfl rfl ((op_shr (4) rfl (ev2 rfl) (ev2 rfl) (fun _ => ⟨rfl, by decide⟩)).cast (d' := .val (.int .i64 8)) (by kernel_rfl)) (by simp only [upd, za, zaa]; exact rfl) ?_
            refine zai (gd_f (b := false) rfl rfl rfl) rfl rfl rfl ((op_iand rfl (ev2 rfl) (ev1 rfl)).cast (d' := .val (.int .i64 0)) (by kernel_rfl)) (by simp only [upd, za, zaa]; exact rfl) ?_
            refine zai (gd_f (b := false) rfl rfl rfl) rfl rfl rfl ((op_eql rfl (ev2 rfl) (ev1 rfl)).cast (d' := .val (.bool true)) (by kernel_rfl)) (by simp only [upd, za, zaa]; exact rfl) ?_
            refine zai (gd_f (b := false) rfl rfl rfl) rfl rfl rfl (zac (.inl rfl) (ev2 rfl)) (by simp only [upd, za, zaa]; exact rfl) ?_
            refine zai (gd_tt (g := true) (b := true) rfl rfl rfl) rfl rfl rfl (zap rfl fo122_2 (ev1 rfl)) (by simp only [upd, za, zaa]; exact rfl) ?_
            refine zai (gd_tt (g := true) (b := true) rfl rfl rfl) rfl rfl rfl (zaq rfl tb119 (ev2 rfl) rfl rfl) (by simp only [upd, za, zaa]; exact rfl) ?_
            refine zai (gd_tt (g := true) (b := true) rfl rfl rfl) rfl rfl rfl (zah [] [0] [] rfl (ev2 rfl) (ec (ev1 rfl) en) rfl rfl (blk4_d _) rfl rfl rfl rfl rfl rfl) (by simp only [upd, za, zaa]; exact rfl) ?_
            refine zai (gd_tt (g := true) (b := true) rfl rfl rfl) rfl rfl rfl (op_not rfl (ev2 rfl)) (by simp only [upd, za, zaa]; exact rfl) ?_
            refine zai (gd_f (b := false) rfl rfl rfl) rfl rfl rfl (op_and rfl (ev2 rfl) (ev3 rfl (fun _ => rfl))) (by simp only [upd, za, zaa]; exact rfl) ?_
            refine zab rfl rfl rfl (op_or rfl (ev1 rfl) (ev3 rfl (fun _ => rfl))) ?_
            refine zae ?_
            refine dwp_cond rfl (fun c11 => ?_) (fun c11 => ?_)
            · refine zaf ?_
              refine zad ?_
              refine zab rfl rfl rfl (zac (.inr rfl) (ev1 rfl)) ?_
              refine zae ?_
              refine zan ?_
              refine kend0 (rs1 rfl (rv_t rfl)) rfl ?_
              rcases hk with hk | hk
              all_goals
                have hb : opB o = false := by
                  unfold opB
                  simp_all [mostK, errz, eqI_dec, errOr_z]
                  all_goals (first | (intros; omega) | (intros; simp_all; done))
                rw [hb]
                rfl
            · refine zam ?_
              refine zad ?_
              refine zab rfl rfl rfl ((op_add' rfl (ev1 rfl) (ev1 rfl) (fun _ => IntWalk.i64_in _ (by omega))).cast (d' := .val (.int .i64 5)) (by kernel_rfl)) ?_
              refine zab rfl rfl rfl (zac (.inl rfl) (ev1 rfl)) ?_
              refine zae ?_
              refine dloop_step ?_
              refine zaf ?_
              refine zad ?_
              refine zab rfl rfl rfl ((op_lss rfl (ev1 rfl) (ev1 rfl)).cast (d' := .val (.bool true)) (by kernel_rfl)) ?_
              refine zae ?_
              refine zaf ?_
              refine dwp_if_t rfl (rfl) ?_
              refine zam ?_
              refine zaf ?_
              refine zat ?_
              refine zaf ?_
              refine zaj 1 (by simp only [holes, List.cons_append, List.nil_append]; exact rfl) ?_
              refine zad ?_
              refine zab rfl rfl rfl (zac (.inl rfl) (ev1 rfl)) ?_
              refine zab rfl rfl rfl (op_ixwr (5) rfl av123 (ev1 rfl) (ev1 rfl) (fun _ => rfl) (fun _ => by decide) (Nat.le_of_ble_eq_true rfl)) ?_
              refine zak rfl rfl rfl (zao 7 rfl zr122 rfl) (by simp only [upd, za, zaa]; exact rfl) ?_
              refine zab rfl rfl rfl (zac (.inr rfl) (ev1 rfl)) ?_
              refine walk_s rfl rfl (op_stam rfl tb122 (ev1 rfl) (ev1 rfl) rfl rfl rfl rfl) (by simp only [upd, za, zaa]; exact rfl) ?_
              refine zae ?_
              refine zaf ?_
              refine zad ?_
              refine zab rfl rfl rfl (zap rfl fo115_0 (ev1 rfl)) ?_
              refine zab rfl rfl rfl (zaq rfl tb3 (ev1 rfl) rfl rfl) ?_
              refine zab rfl rfl rfl (zac (.inl rfl) (ev1 rfl)) ?_
              refine zab rfl rfl rfl ((op_shr (5) rfl (ev1 rfl) (ev1 rfl) (fun _ => ⟨rfl, by decide⟩)).cast (d' := .val (.int .i64 4)) (by kernel_rfl)) ?_
              refine zab rfl rfl rfl ((op_iand rfl (ev1 rfl) (ev1 rfl)).cast (d' := .val (.int .i64 0)) (by kernel_rfl)) ?_
              refine zab rfl rfl rfl ((op_eql rfl (ev1 rfl) (ev1 rfl)).cast (d' := .val (.bool false)) (by kernel_rfl)) ?_
              refine zab rfl rfl rfl (zac (.inl rfl) (ev1 rfl)) ?_
              refine zag (gd_t (b := false) rfl rfl rfl) rfl rfl rfl (zas (d := .junk)) ?_
              refine zag (gd_t (b := false) rfl rfl rfl) rfl rfl rfl (zas (d := .junk)) ?_
              refine zag (gd_t (b := false) rfl rfl rfl) rfl rfl rfl (zas (d := .junk)) ?_
              refine zag (gd_t (b := false) rfl rfl rfl) rfl rfl rfl (zas (d := .val (.bool false))) ?_
              refine zag (gd_t (b := false) rfl rfl rfl) rfl rfl rfl (zas (d := .val (.bool false))) ?_
              refine zab rfl rfl rfl ((op_and rfl (ev1 rfl) (ev3 rfl id)).cast (d' := .val (.bool false)) (by rfl)) ?_
              refine zab rfl rfl rfl (zac (.inl rfl) (ev1 rfl)) ?_
              refine zai (gd_f (b := false) rfl rfl rfl) rfl rfl rfl (zap rfl fo115_0 (ev1 rfl)) (by simp only [upd, za, zaa]; exact rfl) ?_
              refine zai (gd_f (b := false) rfl rfl rfl) rfl rfl rfl (zaq rfl tb3 (ev2 rfl) rfl rfl) (by simp only [upd, za, zaa]; exact rfl) ?_
              refine zai (gd_f (b := false) rfl rfl rfl) rfl rfl rfl (zac (.inl rfl) (ev1 rfl)) (by simp only [upd, za, zaa]; exact rfl) ?_
              refine zai (gd_f (b := false) rfl rfl rfl) rfl rfl rfl ((op_shr (5) rfl (ev2 rfl) (ev2 rfl) (fun _ => ⟨rfl, by decide⟩)).cast (d' := .val (.int .i64 4)) (by kernel_rfl)) (by simp only [upd, za, zaa]; exact rfl) ?_
              refine zai (gd_f (b := false) rfl rfl rfl) rfl rfl rfl ((op_iand rfl (ev2 rfl) (ev1 rfl)).cast (d' := .val (.int .i64 0)) (by kernel_rfl)) (by simp only [upd, za, zaa]; exact rfl) ?_
              refine zai (gd_f (b := false) rfl rfl rfl) rfl rfl rfl ((op_eql rfl (ev2 rfl) (ev1 rfl)).cast (d' := .val (.bool true)) (by kernel_rfl)) (by simp only [upd, za, zaa]; exact rfl) ?_
              refine zai (gd_f (b := false) rfl rfl rfl) rfl rfl rfl (zac (.inl rfl) (ev2 rfl)) (by simp only [upd, za, zaa]; exact rfl) ?_
              refine zai (gd_tt (g := true) (b := true) rfl rfl rfl) rfl rfl rfl (zap rfl fo122_2 (ev1 rfl)) (by simp only [upd, za, zaa]; exact rfl) ?_
              refine zai (gd_tt (g := true) (b := true) rfl rfl rfl) rfl rfl rfl (zaq rfl tb119 (ev2 rfl) rfl rfl) (by simp only [upd, za, zaa]; exact rfl) ?_
              refine zai (gd_tt (g := true) (b := true) rfl rfl rfl) rfl rfl rfl (zah [] [0] [] rfl (ev2 rfl) (ec (ev1 rfl) en) rfl rfl (blk5_d _) rfl rfl rfl rfl rfl rfl) (by simp only [upd, za, zaa]; exact rfl) ?_
              refine zai (gd_tt (g := true) (b := true) rfl rfl rfl) rfl rfl rfl (op_not rfl (ev2 rfl)) (by simp only [upd, za, zaa]; exact rfl) ?_
              refine zai (gd_f (b := false) rfl rfl rfl) rfl rfl rfl (op_and rfl (ev2 rfl) (ev3 rfl (fun _ => rfl))) (by simp only [upd, za, zaa]; exact rfl) ?_
              refine zab rfl rfl rfl (op_or rfl (ev1 rfl) (ev3 rfl (fun _ => rfl))) ?_
              refine zae ?_
              refine dwp_cond rfl (fun c13 => ?_) (fun c13 => ?_)
              · refine zaf ?_
                refine zad ?_
                refine zab rfl rfl rfl (zac (.inr rfl) (ev1 rfl)) ?_
                refine zae ?_
                refine zan ?_
                refine kend0 (rs1 rfl (rv_t rfl)) rfl ?_
                rcases hk with hk | hk
                all_goals
                  have hb : opB o = false := by
                    unfold opB
                    simp_all [mostK, errz, eqI_dec, errOr_z]
                    all_goals (first | (intros; omega) | (intros; simp_all; done))
                  rw [hb]
                  rfl
              · refine zam ?_
                refine zad ?_
                refine zab rfl rfl rfl ((op_add' rfl (ev1 rfl) (ev1 rfl) (fun _ => IntWalk.i64_in _ (by omega))).cast (d' := .val (.int .i64 6)) (by kernel_rfl)) ?_
                refine zab rfl rfl rfl (zac (.inl rfl) (ev1 rfl)) ?_
                refine zae ?_
                refine dloop_step ?_
                refine zaf ?_
                refine zad ?_
                refine zab rfl rfl rfl ((op_lss rfl (ev1 rfl) (ev1 rfl)).cast (d' := .val (.bool true)) (by kernel_rfl)) ?_
                refine zae ?_
                refine zaf ?_
                refine dwp_if_t rfl (rfl) ?_
                refine zam ?_
                refine zaf ?_
                refine zat ?_
                refine zaf ?_
                refine zaj 1 (by simp only [holes, List.cons_append, List.nil_append]; exact rfl) ?_
                refine zad ?_
                refine zab rfl rfl rfl (zac (.inl rfl) (ev1 rfl)) ?_
                refine zab rfl rfl rfl (op_ixwr (6) rfl av123 (ev1 rfl) (ev1 rfl) (fun _ => rfl) (fun _ => by decide) (Nat.le_of_ble_eq_true rfl)) ?_
                refine zak rfl rfl rfl (zao 8 rfl zr122 rfl) (by simp only [upd, za, zaa]; exact rfl) ?_
                refine zab rfl rfl rfl (zac (.inr rfl) (ev1 rfl)) ?_
                refine walk_s rfl rfl (op_stam rfl tb122 (ev1 rfl) (ev1 rfl) rfl rfl rfl rfl) (by simp only [upd, za, zaa]; exact rfl) ?_
                refine zae ?_
                refine zaf ?_
                refine zad ?_
                refine zab rfl rfl rfl (zap rfl fo115_0 (ev1 rfl)) ?_
                refine zab rfl rfl rfl (zaq rfl tb3 (ev1 rfl) rfl rfl) ?_
                refine zab rfl rfl rfl (zac (.inl rfl) (ev1 rfl)) ?_
                refine zab rfl rfl rfl ((op_shr (6) rfl (ev1 rfl) (ev1 rfl) (fun _ => ⟨rfl, by decide⟩)).cast (d' := .val (.int .i64 2)) (by kernel_rfl)) ?_
                refine zab rfl rfl rfl ((op_iand rfl (ev1 rfl) (ev1 rfl)).cast (d' := .val (.int .i64 0)) (by kernel_rfl)) ?_
                refine zab rfl rfl rfl ((op_eql rfl (ev1 rfl) (ev1 rfl)).cast (d' := .val (.bool false)) (by kernel_rfl)) ?_
                refine zab rfl rfl rfl (zac (.inl rfl) (ev1 rfl)) ?_
                refine zag (gd_t (b := false) rfl rfl rfl) rfl rfl rfl (zas (d := .junk)) ?_
                refine zag (gd_t (b := false) rfl rfl rfl) rfl rfl rfl (zas (d := .junk)) ?_
                refine zag (gd_t (b := false) rfl rfl rfl) rfl rfl rfl (zas (d := .junk)) ?_
                refine zag (gd_t (b := false) rfl rfl rfl) rfl rfl rfl (zas (d := .val (.bool false))) ?_
                refine zag (gd_t (b := false) rfl rfl rfl) rfl rfl rfl (zas (d := .val (.bool false))) ?_
                refine zab rfl rfl rfl ((op_and rfl (ev1 rfl) (ev3 rfl id)).cast (d' := .val (.bool false)) (by rfl)) ?_
                refine zab rfl rfl rfl (zac (.inl rfl) (ev1 rfl)) ?_
                refine zai (gd_f (b := false) rfl rfl rfl) rfl rfl rfl (zap rfl fo115_0 (ev1 rfl)) (by simp only [upd, za, zaa]; exact rfl) ?_
                refine zai (gd_f (b := false) rfl rfl rfl) rfl rfl rfl (zaq rfl tb3 (ev2 rfl) rfl rfl) (by simp only [upd, za, zaa]; exact rfl) ?_
                refine zai (gd_f (b := false) rfl rfl rfl) rfl rfl rfl (zac (.inl rfl) (ev1 rfl)) (by simp only [upd, za, zaa]; exact rfl) ?_
                refine zai (gd_f (b := false) rfl rfl rfl) rfl rfl rfl ((op_shr (6) rfl (ev2 rfl) (ev2 rfl) (fun _ => ⟨rfl, by decide⟩)).cast (d' := .val (.int .i64 2)) (by kernel_rfl)) (by simp only [upd, za, zaa]; exact rfl) ?_
                refine zai (gd_f (b := false) rfl rfl rfl) rfl rfl rfl ((op_iand rfl (ev2 rfl) (ev1 rfl)).cast (d' := .val (.int .i64 0)) (by kernel_rfl)) (by simp only [upd, za, zaa]; exact rfl) ?_
                refine zai (gd_f (b := false) rfl rfl rfl) rfl rfl rfl ((op_eql rfl (ev2 rfl) (ev1 rfl)).cast (d' := .val (.bool true)) (by kernel_rfl)) (by simp only [upd, za, zaa]; exact rfl) ?_
                refine zai (gd_f (b := false) rfl rfl rfl) rfl rfl rfl (zac (.inl rfl) (ev2 rfl)) (by simp only [upd, za, zaa]; exact rfl) ?_
                refine zai (gd_tt (g := true) (b := true) rfl rfl rfl) rfl rfl rfl (zap rfl fo122_2 (ev1 rfl)) (by simp only [upd, za, zaa]; exact rfl) ?_
                refine zai (gd_tt (g := true) (b := true) rfl rfl rfl) rfl rfl rfl (zaq rfl tb119 (ev2 rfl) rfl rfl) (by simp only [upd, za, zaa]; exact rfl) ?_
                refine zai (gd_tt (g := true) (b := true) rfl rfl rfl) rfl rfl rfl (zah [] [0] [] rfl (ev2 rfl) (ec (ev1 rfl) en) rfl rfl (blk6_d _) rfl rfl rfl rfl rfl rfl) (by simp only [upd, za, zaa]; exact rfl) ?_
                refine zai (gd_tt (g := true) (b := true) rfl rfl rfl) rfl rfl rfl (op_not rfl (ev2 rfl)) (by simp only [upd, za, zaa]; exact rfl) ?_
                refine zai (gd_f (b := false) rfl rfl rfl) rfl rfl rfl (op_and rfl (ev2 rfl) (ev3 rfl (fun _ => rfl))) (by simp only [upd, za, zaa]; exact rfl) ?_
                refine zab rfl rfl rfl (op_or rfl (ev1 rfl) (ev3 rfl (fun _ => rfl))) ?_
                refine zae ?_
                refine dwp_cond rfl (fun c15 => ?_) (fun c15 => ?_)
                · refine zaf ?_
                  refine zad ?_
                  refine zab rfl rfl rfl (zac (.inr rfl) (ev1 rfl)) ?_
                  refine zae ?_
                  refine zan ?_
                  refine kend0 (rs1 rfl (rv_t rfl)) rfl ?_
                  rcases hk with hk | hk
                  all_goals
                    have hb : opB o = false := by
                      unfold opB
                      simp_all [mostK, errz, eqI_dec, errOr_z]
                      all_goals (first | (intros; omega) | (intros; simp_all; done))
                    rw [hb]
                    rfl
                · refine zam ?_
                  refine zad ?_
                  refine zab rfl rfl rfl ((op_add' rfl (ev1 rfl) (ev1 rfl) (fun _ => IntWalk.i64_in _ (by omega))).cast (d' := .val (.int .i64 7)) (by kernel_rfl)) ?_
                  refine zab rfl rfl rfl (zac (.inl rfl) (ev1 rfl)) ?_
                  refine zae ?_
                  refine dloop_step ?_
                  refine zaf ?_
                  refine zad ?_
                  refine zab rfl rfl rfl ((op_lss rfl (ev1 rfl) (ev1 rfl)).cast (d' := .val (.bool true)) (by kernel_rfl)) ?_
                  refine zae ?_
                  refine zaf ?_
                  refine dwp_if_t rfl (rfl) ?_
                  refine zam ?_
                  refine zaf ?_
                  refine zat ?_
                  refine zaf ?_
                  refine zaj 1 (by simp only [holes, List.cons_append, List.nil_append]; exact rfl) ?_
                  refine zad ?_
                  refine zab rfl rfl rfl (zac (.inl rfl) (ev1 rfl)) ?_
                  refine zab rfl rfl rfl (op_ixwr (7) rfl av123 (ev1 rfl) (ev1 rfl) (fun _ => rfl) (fun _ => by decide) (Nat.le_of_ble_eq_true rfl)) ?_
                  refine zak rfl rfl rfl (zao 9 rfl zr122 rfl) (by simp only [upd, za, zaa]; exact rfl) ?_
                  refine zab rfl rfl rfl (zac (.inr rfl) (ev1 rfl)) ?_
                  refine walk_s rfl rfl (op_stam rfl tb122 (ev1 rfl) (ev1 rfl) rfl rfl rfl rfl) (by simp only [upd, za, zaa]; exact rfl) ?_
                  refine zae ?_
                  refine zaf ?_
                  refine zad ?_
                  refine zab rfl rfl rfl (zap rfl fo115_0 (ev1 rfl)) ?_
                  refine zab rfl rfl rfl (zaq rfl tb3 (ev1 rfl) rfl rfl) ?_
                  refine zab rfl rfl rfl (zac (.inl rfl) (ev1 rfl)) ?_
                  refine zab rfl rfl rfl ((op_shr (7) rfl (ev1 rfl) (ev1 rfl) (fun _ => ⟨rfl, by decide⟩)).cast (d' := .val (.int .i64 1)) (by kernel_rfl)) ?_
                  refine zab rfl rfl rfl ((op_iand rfl (ev1 rfl) (ev1 rfl)).cast (d' := .val (.int .i64 1)) (by kernel_rfl)) ?_
                  refine zab rfl rfl rfl ((op_eql rfl (ev1 rfl) (ev1 rfl)).cast (d' := .val (.bool true)) (by kernel_rfl)) ?_
                  refine zab rfl rfl rfl (zac (.inl rfl) (ev1 rfl)) ?_
                  refine zai (gd_t (b := true) rfl rfl rfl) rfl rfl rfl (zap rfl fo122_1 (ev1 rfl)) (by simp only [upd, za, zaa]; exact rfl) ?_
                  refine zai (gd_t (b := true) rfl rfl rfl) rfl rfl rfl (zaq rfl tb118 (ev2 rfl) rfl rfl) (by simp only [upd, za, zaa]; exact rfl) ?_
                  refine zai (gd_t (b := true) rfl rfl rfl) rfl rfl rfl (op_ldmw rfl tb115 (ev1 rfl) rfl rfl) (by simp only [upd, za, zaa]; exact rfl) ?_
                  refine zai (gd_t (b := true) rfl rfl rfl) rfl rfl rfl (zah [] [0] [] rfl (ev2 rfl) (ec (ev2 rfl) (ec (ev1 rfl) en)) rfl rfl (fit7_d _ _ _ _ _) rfl rfl rfl rfl rfl rfl) (by simp only [upd, za, zaa]; exact rfl) ?_
                  refine zai (gd_t (b := true) rfl rfl rfl) rfl rfl rfl (op_not rfl (ev2 rfl)) (by simp only [upd, za, zaa]; exact rfl) ?_
                  refine zab rfl rfl rfl (op_and rfl (ev1 rfl) (ev3 rfl (fun _ => rfl))) ?_
                  refine zab rfl rfl rfl (zac (.inl rfl) (ev1 rfl)) ?_
                  refine zag (gd_f rfl rfl rfl) rfl rfl rfl (zap rfl fo115_0 (ev1 rfl)) ?_
                  refine zag (gd_f rfl rfl rfl) rfl rfl rfl (zaq rfl tb3 (ev2 rfl) rfl rfl) ?_
                  refine zag (gd_f rfl rfl rfl) rfl rfl rfl (zac (.inl rfl) (ev1 rfl)) ?_
                  refine zag (gd_f rfl rfl rfl) rfl rfl rfl ((op_shr (7) rfl (ev2 rfl) (ev2 rfl) (fun _ => ⟨rfl, by decide⟩)).cast (d' := .val (.int .i64 1)) (by kernel_rfl)) ?_
                  refine zag (gd_f rfl rfl rfl) rfl rfl rfl ((op_iand rfl (ev2 rfl) (ev1 rfl)).cast (d' := .val (.int .i64 1)) (by kernel_rfl)) ?_
                  refine zag (gd_f rfl rfl rfl) rfl rfl rfl ((op_eql rfl (ev2 rfl) (ev1 rfl)).cast (d' := .val (.bool false)) (by kernel_rfl)) ?_
                  refine zag (gd_f rfl rfl rfl) rfl rfl rfl (zac (.inl rfl) (ev2 rfl)) ?_
                  refine zag (gd_tt rfl rfl rfl) rfl rfl rfl (zap rfl fo122_2 (ev1 rfl)) ?_
                  refine zag (gd_tt rfl rfl rfl) rfl rfl rfl (zaq rfl tb119 (ev2 rfl) rfl rfl) ?_
                  refine zag (gd_tt rfl rfl rfl) rfl rfl rfl (zah [] [0] [] rfl (ev2 rfl) (ec (ev1 rfl) en) rfl rfl (blk7_d _) rfl rfl rfl rfl rfl rfl) ?_
                  refine zag (gd_tt rfl rfl rfl) rfl rfl rfl (op_not rfl (ev2 rfl)) ?_
                  refine zag (gd_f rfl rfl rfl) rfl rfl rfl ((op_and rfl (ev2 rfl) (ev2 rfl)).cast (d' := .val (.bool false)) (by rfl)) ?_
                  refine zab rfl rfl rfl (op_or rfl (ev1 rfl) (ev3 rfl id)) ?_
                  refine zae ?_
                  refine dwp_cond rfl (fun c17 => ?_) (fun c17 => ?_)
                  · refine zaf ?_
                    refine zad ?_
                    refine zab rfl rfl rfl (zac (.inr rfl) (ev1 rfl)) ?_
                    refine zae ?_
                    refine zan ?_
                    refine kend0 (rs1 rfl (rv_t rfl)) rfl ?_
                    rcases hk with hk | hk
                    all_goals
                      have hb : opB o = false := by
                        unfold opB
                        simp_all [mostK, errz, eqI_dec, errOr_z]
                        all_goals (first | (intros; omega) | (intros; simp_all; done))
                      rw [hb]
                      rfl
                  · refine zam ?_
                    refine zad ?_
                    refine zab rfl rfl rfl ((op_add' rfl (ev1 rfl) (ev1 rfl) (fun _ => IntWalk.i64_in _ (by omega))).cast (d' := .val (.int .i64 8)) (by kernel_rfl)) ?_
                    refine zab rfl rfl rfl (zac (.inl rfl) (ev1 rfl)) ?_
                    refine zae ?_
                    refine dloop_step ?_
                    refine zaf ?_
                    refine zad ?_
                    refine zab rfl rfl rfl ((op_lss rfl (ev1 rfl) (ev1 rfl)).cast (d' := .val (.bool false)) (by kernel_rfl)) ?_
                    refine zae ?_
                    refine zaf ?_
                    refine dwp_if_f rfl (rfl) ?_
                    refine dwp_exit ?_
                    refine zaf ?_
                    refine zad ?_
                    refine zab rfl rfl rfl (zac (.inr rfl) (ev1 rfl)) ?_
                    refine zae ?_
                    refine zan ?_
                    refine kend0 (rs1 rfl (rv_t rfl)) rfl ?_
                    rcases hk with hk | hk
                    all_goals
                      have hb : opB o = true := by
                        unfold opB
                        simp_all [mostK, errz, eqI_dec, errOr_z]
                        all_goals (first | (intros; omega) | (intros; simp_all; done))
                      rw [hb]
                      rfl
end Go.Proofs.YtmacjicebemgoaaGreat
