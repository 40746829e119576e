/- which operations may be, kind by kind. No condition. -/
import Derived.Test.YtnjnhghafjlmbaaGreatQ4
import Derived.Test.YtnjnhghafjlmbaaGreatRows
import Derived.Test.YtnjnhghafjlmbaaGreatProg
import Derived.OpenShut
import Derived.ChangeArms
import Derived.DataReads
import Derived.Below
import Derived.Deep.Slices
import Derived.JoinedOf
import Derived.JoinedAt
import Derived.Lib.SmallJoins
import Derived.Carry
import Derived.ProofKit
import Derived.RowKit3
import Derived.WalkKit
import Derived.Laws.AppendOwn
import Derived.RangeFuncRecord
import Derived.RangeFuncLeaves
import Derived.OrdersIn
import Derived.Deep.MidRow
import Derived.Laws.MakeOwn
import Derived.IntWalk
import Derived.Laws.OwnMore
import Derived.OwnWalk
import Derived.Recover
import Derived.RangeFuncIn
import Derived.Laws.StructEq
import Derived.LaidMore
import Derived.Handed
import Derived.LaidHandle
import Derived.Stop.Joined
import Derived.Laws.IdiomCopy
import Derived.Laws.Pointers
import Derived.Laws.LoneSync
namespace Go.Proofs.YtnjnhghafjlmbaaGreat
set_option linter.unusedVariables false
set_option linter.unusedSimpArgs false
open Go.RowKit
theorem av173 : arV Tryz.prog 173 = some (8, 4) := by kernel_rfl
theorem fo164_0 : fdO Tryz.prog 164 0 = some 0 := by kernel_rfl
theorem fo172_1 : fdO Tryz.prog 172 1 = some 1 := by kernel_rfl
theorem fo172_2 : fdO Tryz.prog 172 2 = some 2 := by kernel_rfl
theorem fo68_1 : fdO Tryz.prog 68 1 = some 3 := by kernel_rfl
theorem tb168 : tyB Tryz.prog 168 = some (false, 1) := by kernel_rfl
theorem tb169 : tyB Tryz.prog 169 = some (false, 1) := by kernel_rfl
theorem tb172 : tyB Tryz.prog 172 = some (true, 4) := by kernel_rfl
theorem errOr_z (b : Bool) {n : Int} (hn : n ≠ 0) : (errOr b n = 0) = (b = true) := by
  cases b
  · simp [errOr, hn]
  · simp [errOr]
set_option maxRecDepth 4000 in
set_option maxHeartbeats 1000000 in
theorem opc_1 (o : OpM) (hk : o.kd = 1) : DFun Tryz.prog 92 [.agg (opD o)] [] (.val (.int .i64 (errOr (opB o) 220))) [] := by
  refine zba (N := 54) 0 (by kernel_rfl) Tryz.func92 rfl rfl rfl (by simp only [fr0, Nat.zero_add, Nat.reduceAdd]; exact rfl) rfl fun s0 hs0 => ?_
  refine zaf ?_
  refine zaj 1 (by simp only [holes, List.cons_append, List.nil_append]; exact rfl) ?_
  refine zac ?_
  refine zam rfl rfl rfl (op_boxam 0 rfl (ev1 rfl) rfl) (by simp only [upd, za, zaa]; exact rfl) ?_
  refine zab rfl rfl rfl (zad (.inr rfl) (ev1 rfl)) ?_
  refine zae ?_
  refine zaf ?_
  refine zaj 1 (by simp only [holes, List.cons_append, List.nil_append]; exact rfl) ?_
  refine zac ?_
  refine zab rfl rfl rfl (zap rfl fo68_1 (ev1 rfl)) ?_
  refine zab rfl rfl rfl ((zav rfl tb3 (ev1 rfl) rfl rfl : DOp _ _ _ _ _ _ (.val (.int .i64 o.kd)) _).cast (d' := .val (.int .i64 1)) (by rw [hk])) ?_
  refine zab rfl rfl rfl (zah [] [] [] rfl (ev1 rfl) (ec (ev1 rfl) en) rfl rfl (kindOf_1) rfl rfl rfl rfl rfl rfl) ?_
  refine zab rfl rfl rfl (zad (.inl rfl) (ev1 rfl)) ?_
  refine zab rfl rfl rfl (op_ext rfl (ev1 rfl) rfl) ?_
  refine zab rfl rfl rfl (op_ext rfl (ev1 rfl) rfl) ?_
  refine zam rfl rfl rfl (zaq 1 rfl zr164 rfl) (by simp only [upd, za, zaa]; exact rfl) ?_
  refine zax rfl rfl (op_stam rfl tb164 (ev1 rfl) (ev1 rfl) rfl rfl rfl rfl) (by simp only [upd, za, zaa]; exact rfl) ?_
  refine zab rfl rfl rfl (zad (.inr rfl) (ev1 rfl)) ?_
  refine zae ?_
  refine zaf ?_
  refine zaf ?_
  refine zac ?_
  refine zab rfl rfl rfl (zad (.inl rfl) (ev1 rfl)) ?_
  refine zab rfl rfl rfl ((op_not rfl (ev1 rfl)).cast (d' := .val (.bool false)) (by kernel_rfl)) ?_
  refine zab rfl rfl rfl (zad (.inl rfl) (ev1 rfl)) ?_
  refine zai (zan (b := false) rfl rfl rfl) rfl rfl rfl (zap rfl fo68_0 (ev1 rfl)) (by simp only [upd, za, zaa]; exact rfl) ?_
  refine zai (zan (b := false) rfl rfl rfl) rfl rfl rfl (op_ldmv (R := [_, _, _]) rfl tb61 (ev2 rfl) rfl rfl rfl) (by simp only [upd, za, zaa]; exact rfl) ?_
  refine zai (zan (b := false) rfl rfl rfl) rfl rfl rfl (zah [] [] [] rfl (ev1 rfl) (ec (ev2 rfl) en) rfl rfl (idCheck_d _) rfl rfl rfl rfl rfl rfl) (by simp only [upd, za, zaa]; exact rfl) ?_
  refine zai (zan (b := false) rfl rfl rfl) rfl rfl rfl (op_neq rfl (ev2 rfl) (ev1 rfl)) (by simp only [upd, za, zaa]; exact rfl) ?_
  refine zab rfl rfl rfl (op_or rfl (ev1 rfl) (ev3 rfl (fun _ => rfl))) ?_
  refine zae ?_
  refine zaw rfl (fun c1 => ?_) (fun c1 => ?_)
  · refine zaf ?_
    refine zac ?_
    refine zab rfl rfl rfl (zad (.inr rfl) (ev1 rfl)) ?_
    refine zae ?_
    refine zau ?_
    refine kend0 (rs1 rfl (rv_t rfl)) rfl ?_
    have hb : opB o = false := by
      unfold opB
      simp_all [mostK, errz, eqI_dec, errOr_z]
      all_goals (first | (intros; omega) | (intros; simp_all; done))
    rw [hb]
    rfl
  · refine zak ?_
    refine zaf ?_
    refine zaf ?_
    refine zac ?_
    refine zab rfl rfl rfl (zah [] [] [] rfl (ev1 rfl) en rfl rfl (fields_d) rfl rfl rfl rfl rfl rfl) ?_
    refine zab rfl rfl rfl (zad (.inl rfl) (ev1 rfl)) ?_
    refine zae ?_
    refine zat ?_
    refine dwp_dloop (dloop_step ?_)
    refine zaf ?_
    refine zac ?_
    refine zab rfl rfl rfl ((op_lss rfl (ev1 rfl) (ev1 rfl)).cast (d' := .val (.bool true)) (by kernel_rfl)) ?_
    refine zae ?_
    refine zaf ?_
    refine dwp_if_t rfl (rfl) ?_
    refine zak ?_
    refine zaf ?_
    refine zat ?_
    refine zaf ?_
    refine zaj 1 (by simp only [holes, List.cons_append, List.nil_append]; exact rfl) ?_
    refine zac ?_
    refine zab rfl rfl rfl (zad (.inl rfl) (ev1 rfl)) ?_
    refine zab rfl rfl rfl (op_ixwr (0) rfl av173 (ev1 rfl) (ev1 rfl) (fun _ => rfl) (fun _ => by decide) (Nat.le_of_ble_eq_true rfl)) ?_
    refine zam rfl rfl rfl (zaq 2 rfl zr172 rfl) (by simp only [upd, za, zaa]; exact rfl) ?_
    refine zab rfl rfl rfl (zad (.inr rfl) (ev1 rfl)) ?_
    refine zax rfl rfl (op_stam rfl tb172 (ev1 rfl) (ev1 rfl) rfl rfl rfl rfl) (by simp only [upd, za, zaa]; exact rfl) ?_
    refine zae ?_
    refine zaf ?_
    refine zac ?_
    refine zab rfl rfl rfl (zap rfl fo164_0 (ev1 rfl)) ?_
    refine zab rfl rfl rfl (zav rfl tb3 (ev1 rfl) rfl rfl) ?_
    refine zab rfl rfl rfl (zad (.inl rfl) (ev1 rfl)) ?_
    refine zab rfl rfl rfl ((op_shr (0) rfl (ev1 rfl) (ev1 rfl) (fun _ => ⟨rfl, by decide⟩)).cast (d' := .val (.int .i64 63)) (by kernel_rfl)) ?_
    refine zab rfl rfl rfl ((op_iand rfl (ev1 rfl) (ev1 rfl)).cast (d' := .val (.int .i64 1)) (by kernel_rfl)) ?_
    refine zab rfl rfl rfl ((zb rfl (ev1 rfl) (ev1 rfl)).cast (d' := .val (.bool true)) (by kernel_rfl)) ?_
    refine zab rfl rfl rfl (zad (.inl rfl) (ev1 rfl)) ?_
    refine zai (zar (b := true) rfl rfl rfl) rfl rfl rfl (zap rfl fo172_1 (ev1 rfl)) (by simp only [upd, za, zaa]; exact rfl) ?_
    refine zai (zar (b := true) rfl rfl rfl) rfl rfl rfl (zav rfl tb168 (ev2 rfl) rfl rfl) (by simp only [upd, za, zaa]; exact rfl) ?_
    refine zai (zar (b := true) rfl rfl rfl) rfl rfl rfl (op_ldmw rfl tb164 (ev1 rfl) rfl rfl) (by simp only [upd, za, zaa]; exact rfl) ?_
    refine zai (zar (b := true) rfl rfl rfl) rfl rfl rfl (zah [] [0] [] rfl (ev2 rfl) (ec (ev2 rfl) (ec (ev1 rfl) en)) rfl rfl (fit0_d _ _ _ _ _) rfl rfl rfl rfl rfl rfl) (by simp only [upd, za, zaa]; exact rfl) ?_
    refine zai (zar (b := true) rfl rfl rfl) rfl rfl rfl (op_not rfl (ev2 rfl)) (by simp only [upd, za, zaa]; exact rfl) ?_
    refine zab rfl rfl rfl (zaz rfl (ev1 rfl) (ev3 rfl (fun _ => rfl))) ?_
    refine zab rfl rfl rfl (zad (.inl rfl) (ev1 rfl)) ?_
    refine zag (zan rfl rfl rfl) rfl rfl rfl (zap rfl fo164_0 (ev1 rfl)) ?_
    refine zag (zan rfl rfl rfl) rfl rfl rfl (zav rfl tb3 (ev2 rfl) rfl rfl) ?_
    refine zag (zan rfl rfl rfl) rfl rfl rfl (zad (.inl rfl) (ev1 rfl)) ?_
    refine zag (zan rfl rfl rfl) rfl rfl rfl ((op_shr (0) rfl (ev2 rfl) (ev2 rfl) (fun _ => ⟨rfl, by decide⟩)).cast (d' := .val (.int .i64 63)) (by kernel_rfl)) ?_
    refine zag (zan rfl rfl rfl) rfl rfl rfl ((op_iand rfl (ev2 rfl) (ev1 rfl)).cast (d' := .val (.int .i64 1)) (by kernel_rfl)) ?_
    refine zag (zan rfl rfl rfl) rfl rfl rfl ((zb rfl (ev2 rfl) (ev1 rfl)).cast (d' := .val (.bool false)) (by kernel_rfl)) ?_
    refine zag (zan rfl rfl rfl) rfl rfl rfl (zad (.inl rfl) (ev2 rfl)) ?_
    refine zag (zay rfl rfl rfl) rfl rfl rfl (zap rfl fo172_2 (ev1 rfl)) ?_
    refine zag (zay rfl rfl rfl) rfl rfl rfl (zav rfl tb169 (ev2 rfl) rfl rfl) ?_
    refine zag (zay rfl rfl rfl) rfl rfl rfl (zah [] [0] [] rfl (ev2 rfl) (ec (ev1 rfl) en) rfl rfl (blk0_d _) rfl rfl rfl rfl rfl rfl) ?_
    refine zag (zay rfl rfl rfl) rfl rfl rfl (op_not rfl (ev2 rfl)) ?_
    refine zag (zan rfl rfl rfl) rfl rfl rfl ((zaz rfl (ev2 rfl) (ev2 rfl)).cast (d' := .val (.bool false)) (by rfl)) ?_
    refine zab rfl rfl rfl (op_or rfl (ev1 rfl) (ev3 rfl id)) ?_
    refine zae ?_
    refine zaw rfl (fun c3 => ?_) (fun c3 => ?_)
    · refine zaf ?_
      refine zac ?_
      refine zab rfl rfl rfl (zad (.inr rfl) (ev1 rfl)) ?_
      refine zae ?_
      refine zau ?_
      refine kend0 (rs1 rfl (rv_t rfl)) rfl ?_
      have hb : opB o = false := by
        unfold opB
        simp_all [mostK, errz, eqI_dec, errOr_z]
        all_goals (first | (intros; omega) | (intros; simp_all; done))
      rw [hb]
      rfl
    · refine zak ?_
      refine zac ?_
      refine zab rfl rfl rfl ((op_add' rfl (ev1 rfl) (ev1 rfl) (fun _ => IntWalk.i64_in _ (by omega))).cast (d' := .val (.int .i64 1)) (by kernel_rfl)) ?_
      refine zab rfl rfl rfl (zad (.inl rfl) (ev1 rfl)) ?_
      refine zae ?_
      refine dloop_step ?_
      refine zaf ?_
      refine zac ?_
      refine zab rfl rfl rfl ((op_lss rfl (ev1 rfl) (ev1 rfl)).cast (d' := .val (.bool true)) (by kernel_rfl)) ?_
      refine zae ?_
      refine zaf ?_
      refine dwp_if_t rfl (rfl) ?_
      refine zak ?_
      refine zaf ?_
      refine zat ?_
      refine zaf ?_
      refine zaj 1 (by simp only [holes, List.cons_append, List.nil_append]; exact rfl) ?_
      refine zac ?_
      refine zab rfl rfl rfl (zad (.inl rfl) (ev1 rfl)) ?_
      refine zab rfl rfl rfl (op_ixwr (1) rfl av173 (ev1 rfl) (ev1 rfl) (fun _ => rfl) (fun _ => by decide) (Nat.le_of_ble_eq_true rfl)) ?_
      refine zam rfl rfl rfl (zaq 3 rfl zr172 rfl) (by simp only [upd, za, zaa]; exact rfl) ?_
      refine zab rfl rfl rfl (zad (.inr rfl) (ev1 rfl)) ?_
      refine zax rfl rfl (op_stam rfl tb172 (ev1 rfl) (ev1 rfl) rfl rfl rfl rfl) (by simp only [upd, za, zaa]; exact rfl) ?_
      refine zae ?_
      refine zaf ?_
      refine zac ?_
      refine zab rfl rfl rfl (zap rfl fo164_0 (ev1 rfl)) ?_
      refine zab rfl rfl rfl (zav rfl tb3 (ev1 rfl) rfl rfl) ?_
      refine zab rfl rfl rfl (zad (.inl rfl) (ev1 rfl)) ?_
      refine zab rfl rfl rfl ((op_shr (1) rfl (ev1 rfl) (ev1 rfl) (fun _ => ⟨rfl, by decide⟩)).cast (d' := .val (.int .i64 31)) (by kernel_rfl)) ?_
      refine zab rfl rfl rfl ((op_iand rfl (ev1 rfl) (ev1 rfl)).cast (d' := .val (.int .i64 1)) (by kernel_rfl)) ?_
      refine zab rfl rfl rfl ((zb rfl (ev1 rfl) (ev1 rfl)).cast (d' := .val (.bool true)) (by kernel_rfl)) ?_
      refine zab rfl rfl rfl (zad (.inl rfl) (ev1 rfl)) ?_
      refine zai (zar (b := true) rfl rfl rfl) rfl rfl rfl (zap rfl fo172_1 (ev1 rfl)) (by simp only [upd, za, zaa]; exact rfl) ?_
      refine zai (zar (b := true) rfl rfl rfl) rfl rfl rfl (zav rfl tb168 (ev2 rfl) rfl rfl) (by simp only [upd, za, zaa]; exact rfl) ?_
      refine zai (zar (b := true) rfl rfl rfl) rfl rfl rfl (op_ldmw rfl tb164 (ev1 rfl) rfl rfl) (by simp only [upd, za, zaa]; exact rfl) ?_
      refine zai (zar (b := true) rfl rfl rfl) rfl rfl rfl (zah [] [0] [] rfl (ev2 rfl) (ec (ev2 rfl) (ec (ev1 rfl) en)) rfl rfl (fit1_d _ _ _ _ _) rfl rfl rfl rfl rfl rfl) (by simp only [upd, za, zaa]; exact rfl) ?_
      refine zai (zar (b := true) rfl rfl rfl) rfl rfl rfl (op_not rfl (ev2 rfl)) (by simp only [upd, za, zaa]; exact rfl) ?_
      refine zab rfl rfl rfl (zaz rfl (ev1 rfl) (ev3 rfl (fun _ => rfl))) ?_
      refine zab rfl rfl rfl (zad (.inl rfl) (ev1 rfl)) ?_
      refine zag (zan rfl rfl rfl) rfl rfl rfl (zap rfl fo164_0 (ev1 rfl)) ?_
      refine zag (zan rfl rfl rfl) rfl rfl rfl (zav rfl tb3 (ev2 rfl) rfl rfl) ?_
      refine zag (zan rfl rfl rfl) rfl rfl rfl (zad (.inl rfl) (ev1 rfl)) ?_
      refine zag (zan rfl rfl rfl) rfl rfl rfl ((op_shr (1) rfl (ev2 rfl) (ev2 rfl) (fun _ => ⟨rfl, by decide⟩)).cast (d' := .val (.int .i64 31)) (by kernel_rfl)) ?_
      refine zag (zan rfl rfl rfl) rfl rfl rfl ((op_iand rfl (ev2 rfl) (ev1 rfl)).cast (d' := .val (.int .i64 1)) (by kernel_rfl)) ?_
      refine zag (zan rfl rfl rfl) rfl rfl rfl ((zb rfl (ev2 rfl) (ev1 rfl)).cast (d' := .val (.bool false)) (by kernel_rfl)) ?_
      refine zag (zan rfl rfl rfl) rfl rfl rfl (zad (.inl rfl) (ev2 rfl)) ?_
      refine zag (zay rfl rfl rfl) rfl rfl rfl (zap rfl fo172_2 (ev1 rfl)) ?_
      refine zag (zay rfl rfl rfl) rfl rfl rfl (zav rfl tb169 (ev2 rfl) rfl rfl) ?_
      refine zag (zay rfl rfl rfl) rfl rfl rfl (zah [] [0] [] rfl (ev2 rfl) (ec (ev1 rfl) en) rfl rfl (blk1_d _) rfl rfl rfl rfl rfl rfl) ?_
      refine zag (zay rfl rfl rfl) rfl rfl rfl (op_not rfl (ev2 rfl)) ?_
      refine zag (zan rfl rfl rfl) rfl rfl rfl ((zaz rfl (ev2 rfl) (ev2 rfl)).cast (d' := .val (.bool false)) (by rfl)) ?_
      refine zab rfl rfl rfl (op_or rfl (ev1 rfl) (ev3 rfl id)) ?_
      refine zae ?_
      refine zaw rfl (fun c5 => ?_) (fun c5 => ?_)
      · refine zaf ?_
        refine zac ?_
        refine zab rfl rfl rfl (zad (.inr rfl) (ev1 rfl)) ?_
        refine zae ?_
        refine zau ?_
        refine kend0 (rs1 rfl (rv_t rfl)) rfl ?_
        have hb : opB o = false := by
          unfold opB
          simp_all [mostK, errz, eqI_dec, errOr_z]
          all_goals (first | (intros; omega) | (intros; simp_all; done))
        rw [hb]
        rfl
      · refine zak ?_
        refine zac ?_
        refine zab rfl rfl rfl ((op_add' rfl (ev1 rfl) (ev1 rfl) (fun _ => IntWalk.i64_in _ (by omega))).cast (d' := .val (.int .i64 2)) (by kernel_rfl)) ?_
        refine zab rfl rfl rfl (zad (.inl rfl) (ev1 rfl)) ?_
        refine zae ?_
        refine dloop_step ?_
        refine zaf ?_
        refine zac ?_
        refine zab rfl rfl rfl ((op_lss rfl (ev1 rfl) (ev1 rfl)).cast (d' := .val (.bool true)) (by kernel_rfl)) ?_
        refine zae ?_
        refine zaf ?_
        refine dwp_if_t rfl (rfl) ?_
        refine zak ?_
        refine zaf ?_
        refine zat ?_
        refine zaf ?_
        refine zaj 1 (by simp only [holes, List.cons_append, List.nil_append]; exact rfl) ?_
        refine zac ?_
        refine zab rfl rfl rfl (zad (.inl rfl) (ev1 rfl)) ?_
        refine zab rfl rfl rfl (op_ixwr (2) rfl av173 (ev1 rfl) (ev1 rfl) (fun _ => rfl) (fun _ => by decide) (Nat.le_of_ble_eq_true rfl)) ?_
        refine zam rfl rfl rfl (zaq 4 rfl zr172 rfl) (by simp only [upd, za, zaa]; exact rfl) ?_
        refine zab rfl rfl rfl (zad (.inr rfl) (ev1 rfl)) ?_
        refine zax rfl rfl (op_stam rfl tb172 (ev1 rfl) (ev1 rfl) rfl rfl rfl rfl) (by simp only [upd, za, zaa]; exact rfl) ?_
        refine zae ?_
        refine zaf ?_
        refine zac ?_
        refine zab rfl rfl rfl (zap rfl fo164_0 (ev1 rfl)) ?_
        refine zab rfl rfl rfl (zav rfl tb3 (ev1 rfl) rfl rfl) ?_
        refine zab rfl rfl rfl (zad (.inl rfl) (ev1 rfl)) ?_
        refine zab rfl rfl rfl ((op_shr (2) rfl (ev1 rfl) (ev1 rfl) (fun _ => ⟨rfl, by decide⟩)).cast (d' := .val (.int .i64 15)) (by kernel_rfl)) ?_
        refine zab rfl rfl rfl ((op_iand rfl (ev1 rfl) (ev1 rfl)).cast (d' := .val (.int .i64 1)) (by kernel_rfl)) ?_
        refine zab rfl rfl rfl ((zb rfl (ev1 rfl) (ev1 rfl)).cast (d' := .val (.bool true)) (by kernel_rfl)) ?_
        refine zab rfl rfl rfl (zad (.inl rfl) (ev1 rfl)) ?_
        refine zai (zar (b := true) rfl rfl rfl) rfl rfl rfl (zap rfl fo172_1 (ev1 rfl)) (by simp only [upd, za, zaa]; exact rfl) ?_
        refine zai (zar (b := true) rfl rfl rfl) rfl rfl rfl (zav rfl tb168 (ev2 rfl) rfl rfl) (by simp only [upd, za, zaa]; exact rfl) ?_
        refine zai (zar (b := true) rfl rfl rfl) rfl rfl rfl (op_ldmw rfl tb164 (ev1 rfl) rfl rfl) (by simp only [upd, za, zaa]; exact rfl) ?_
        refine zai (zar (b := true) rfl rfl rfl) rfl rfl rfl (zah [] [0] [] rfl (ev2 rfl) (ec (ev2 rfl) (ec (ev1 rfl) en)) rfl rfl (fit2_d _ _ _ _ _) rfl rfl rfl rfl rfl rfl) (by simp only [upd, za, zaa]; exact rfl) ?_
        refine zai (zar (b := true) rfl rfl rfl) rfl rfl rfl (op_not rfl (ev2 rfl)) (by simp only [upd, za, zaa]; exact rfl) ?_
        refine zab rfl rfl rfl (zaz rfl (ev1 rfl) (ev3 rfl (fun _ => rfl))) ?_
        refine zab rfl rfl rfl (zad (.inl rfl) (ev1 rfl)) ?_
        refine zag (zan rfl rfl rfl) rfl rfl rfl (zap rfl fo164_0 (ev1 rfl)) ?_
        refine zag (zan rfl rfl rfl) rfl rfl rfl (zav rfl tb3 (ev2 rfl) rfl rfl) ?_
        refine zag (zan rfl rfl rfl) rfl rfl rfl (zad (.inl rfl) (ev1 rfl)) ?_
        refine zag (zan rfl rfl rfl) rfl rfl rfl ((op_shr (2) rfl (ev2 rfl) (ev2 rfl) (fun _ => ⟨rfl, by decide⟩)).cast (d' := .val (.int .i64 15)) (by kernel_rfl)) ?_
        refine zag (zan rfl rfl rfl) rfl rfl rfl ((op_iand rfl (ev2 rfl) (ev1 rfl)).cast (d' := .val (.int .i64 1)) (by kernel_rfl)) ?_
        refine zag (zan rfl rfl rfl) rfl rfl rfl ((zb rfl (ev2 rfl) (ev1 rfl)).cast (d' := .val (.bool false)) (by kernel_rfl)) ?_
        refine zag (zan rfl rfl rfl) rfl rfl rfl (zad (.inl rfl) (ev2 rfl)) ?_
        refine zag (zay rfl rfl rfl) rfl rfl rfl (zap rfl fo172_2 (ev1 rfl)) ?_
        refine zag (zay rfl rfl rfl) rfl rfl rfl (zav rfl tb169 (ev2 rfl) rfl rfl) ?_
        refine zag (zay rfl rfl rfl) rfl rfl rfl (zah [] [0] [] rfl (ev2 rfl) (ec (ev1 rfl) en) rfl rfl (blk2_d _) rfl rfl rfl rfl rfl rfl) ?_
        refine zag (zay rfl rfl rfl) rfl rfl rfl (op_not rfl (ev2 rfl)) ?_
        refine zag (zan rfl rfl rfl) rfl rfl rfl ((zaz rfl (ev2 rfl) (ev2 rfl)).cast (d' := .val (.bool false)) (by rfl)) ?_
        refine zab rfl rfl rfl (op_or rfl (ev1 rfl) (ev3 rfl id)) ?_
        refine zae ?_
        refine zaw rfl (fun c7 => ?_) (fun c7 => ?_)
        · refine zaf ?_
          refine zac ?_
          refine zab rfl rfl rfl (zad (.inr rfl) (ev1 rfl)) ?_
          refine zae ?_
          refine zau ?_
          refine kend0 (rs1 rfl (rv_t rfl)) rfl ?_
          have hb : opB o = false := by
            unfold opB
            simp_all [mostK, errz, eqI_dec, errOr_z]
            all_goals (first | (intros; omega) | (intros; simp_all; done))
          rw [hb]
          rfl
        · refine zak ?_
          refine zac ?_
          refine zab rfl rfl rfl ((op_add' rfl (ev1 rfl) (ev1 rfl) (fun _ => IntWalk.i64_in _ (by omega))).cast (d' := .val (.int .i64 3)) (by kernel_rfl)) ?_
          refine zab rfl rfl rfl (zad (.inl rfl) (ev1 rfl)) ?_
          refine zae ?_
          refine dloop_step ?_
          refine zaf ?_
          refine zac ?_
          refine zab rfl rfl rfl ((op_lss rfl (ev1 rfl) (ev1 rfl)).cast (d' := .val (.bool true)) (by kernel_rfl)) ?_
          refine zae ?_
          refine zaf ?_
          refine dwp_if_t rfl (rfl) ?_
          refine zak ?_
          refine zaf ?_
          refine zat ?_
          refine zaf ?_
          refine zaj 1 (by simp only [holes, List.cons_append, List.nil_append]; exact rfl) ?_
          refine zac ?_
          refine zab rfl rfl rfl (zad (.inl rfl) (ev1 rfl)) ?_
          refine zab rfl rfl rfl (op_ixwr (3) rfl av173 (ev1 rfl) (ev1 rfl) (fun _ => rfl) (fun _ => by decide) (Nat.le_of_ble_eq_true rfl)) ?_
          refine zam rfl rfl rfl (zaq 5 rfl zr172 rfl) (by simp only [upd, za, zaa]; exact rfl) ?_
          refine zab rfl rfl rfl (zad (.inr rfl) (ev1 rfl)) ?_
          refine zax rfl rfl (op_stam rfl tb172 (ev1 rfl) (ev1 rfl) rfl rfl rfl rfl) (by simp only [upd, za, zaa]; exact rfl) ?_
          refine zae ?_
          refine zaf ?_
          refine zac ?_
          refine zab rfl rfl rfl (zap rfl fo164_0 (ev1 rfl)) ?_
          refine zab rfl rfl rfl (zav rfl tb3 (ev1 rfl) rfl rfl) ?_
          refine zab rfl rfl rfl (zad (.inl rfl) (ev1 rfl)) ?_
          refine zab rfl rfl rfl ((op_shr (3) rfl (ev1 rfl) (ev1 rfl) (fun _ => ⟨rfl, by decide⟩)).cast (d' := .val (.int .i64 7)) (by kernel_rfl)) ?_
          refine zab rfl rfl rfl ((op_iand rfl (ev1 rfl) (ev1 rfl)).cast (d' := .val (.int .i64 1)) (by kernel_rfl)) ?_
          refine zab rfl rfl rfl ((zb rfl (ev1 rfl) (ev1 rfl)).cast (d' := .val (.bool true)) (by kernel_rfl)) ?_
          refine zab rfl rfl rfl (zad (.inl rfl) (ev1 rfl)) ?_
          refine zai (zar (b := true) rfl rfl rfl) rfl rfl rfl (zap rfl fo172_1 (ev1 rfl)) (by simp only [upd, za, zaa]; exact rfl) ?_
          refine zai (zar (b := true) rfl rfl rfl) rfl rfl rfl (zav rfl tb168 (ev2 rfl) rfl rfl) (by simp only [upd, za, zaa]; exact rfl) ?_
          refine zai (zar (b := true) rfl rfl rfl) rfl rfl rfl (op_ldmw rfl tb164 (ev1 rfl) rfl rfl) (by simp only [upd, za, zaa]; exact rfl) ?_
          refine zai (zar (b := true) rfl rfl rfl) rfl rfl rfl (zah [] [0] [] rfl (ev2 rfl) (ec (ev2 rfl) (ec (ev1 rfl) en)) rfl rfl (fit3_d _ _ _ _ _) rfl rfl rfl rfl rfl rfl) (by simp only [upd, za, zaa]; exact rfl) ?_
          refine zai (zar (b := true) rfl rfl rfl) rfl rfl rfl (op_not rfl (ev2 rfl)) (by simp only [upd, za, zaa]; exact rfl) ?_
          refine zab rfl rfl rfl (zaz rfl (ev1 rfl) (ev3 rfl (fun _ => rfl))) ?_
          refine zab rfl rfl rfl (zad (.inl rfl) (ev1 rfl)) ?_
          refine zag (zan rfl rfl rfl) rfl rfl rfl (zap rfl fo164_0 (ev1 rfl)) ?_
          refine zag (zan rfl rfl rfl) rfl rfl rfl (zav rfl tb3 (ev2 rfl) rfl rfl) ?_
          refine zag (zan rfl rfl rfl) rfl rfl rfl (zad (.inl rfl) (ev1 rfl)) ?_
          refine zag (zan rfl rfl rfl) rfl rfl rfl ((op_shr (3) rfl (ev2 rfl) (ev2 rfl) (fun _ => ⟨rfl, by decide⟩)).cast (d' := .val (.int .i64 7)) (by kernel_rfl)) ?_
          refine zag (zan rfl rfl rfl) rfl rfl rfl ((op_iand rfl (ev2 rfl) (ev1 rfl)).cast (d' := .val (.int .i64 1)) (by kernel_rfl)) ?_
          refine zag (zan rfl rfl rfl) rfl rfl rfl ((zb rfl (ev2 rfl) (ev1 rfl)).cast (d' := .val (.bool false)) (by kernel_rfl)) ?_
          refine zag (zan rfl rfl rfl) rfl rfl rfl (zad (.inl rfl) (ev2 rfl)) ?_
          refine zag (zay rfl rfl rfl) rfl rfl rfl (zap rfl fo172_2 (ev1 rfl)) ?_
          refine zag (zay rfl rfl rfl) rfl rfl rfl (zav rfl tb169 (ev2 rfl) rfl rfl) ?_
          refine zag (zay rfl rfl rfl) rfl rfl rfl (zah [] [0] [] rfl (ev2 rfl) (ec (ev1 rfl) en) rfl rfl (blk3_d _) rfl rfl rfl rfl rfl rfl) ?_
          refine zag (zay rfl rfl rfl) rfl rfl rfl (op_not rfl (ev2 rfl)) ?_
          refine zag (zan rfl rfl rfl) rfl rfl rfl ((zaz rfl (ev2 rfl) (ev2 rfl)).cast (d' := .val (.bool false)) (by rfl)) ?_
          refine zab rfl rfl rfl (op_or rfl (ev1 rfl) (ev3 rfl id)) ?_
          refine zae ?_
          refine zaw rfl (fun c9 => ?_) (fun c9 => ?_)
          · refine zaf ?_
            refine zac ?_
            refine zab rfl rfl rfl (zad (.inr rfl) (ev1 rfl)) ?_
            refine zae ?_
            refine zau ?_
            refine kend0 (rs1 rfl (rv_t rfl)) rfl ?_
            have hb : opB o = false := by
              unfold opB
              simp_all [mostK, errz, eqI_dec, errOr_z]
              all_goals (first | (intros; omega) | (intros; simp_all; done))
            rw [hb]
            rfl
          · refine zak ?_
            refine zac ?_
            refine zab rfl rfl rfl ((op_add' rfl (ev1 rfl) (ev1 rfl) (fun _ => IntWalk.i64_in _ (by omega))).cast (d' := .val (.int .i64 4)) (by kernel_rfl)) ?_
            refine zab rfl rfl rfl (zad (.inl rfl) (ev1 rfl)) ?_
            refine zae ?_
            refine dloop_step ?_
            refine zaf ?_
            refine zac ?_
            refine zab rfl rfl rfl ((op_lss rfl (ev1 rfl) (ev1 rfl)).cast (d' := .val (.bool true)) (by kernel_rfl)) ?_
            refine zae ?_
            refine zaf ?_
            refine dwp_if_t rfl (rfl) ?_
            refine zak ?_
            refine zaf ?_
            refine zat ?_
            refine zaf ?_
            refine zaj 1 (by simp only [holes, List.cons_append, List.nil_append]; exact rfl) ?_
            refine zac ?_
            refine zab rfl rfl rfl (zad (.inl rfl) (ev1 rfl)) ?_
            refine zab rfl rfl rfl (op_ixwr (4) rfl av173 (ev1 rfl) (ev1 rfl) (fun _ => rfl) (fun _ => by decide) (Nat.le_of_ble_eq_true rfl)) ?_
            refine zam rfl rfl rfl (zaq 6 rfl zr172 rfl) (by simp only [upd, za, zaa]; exact rfl) ?_
            refine zab rfl rfl rfl (zad (.inr rfl) (ev1 rfl)) ?_
            refine zax rfl rfl (op_stam rfl tb172 (ev1 rfl) (ev1 rfl) rfl rfl rfl rfl) (by simp only [upd, za, zaa]; exact rfl) ?_
            refine zae ?_
            refine zaf ?_
            refine zac ?_
            refine zab rfl rfl rfl (zap rfl fo164_0 (ev1 rfl)) ?_
            refine zab rfl rfl rfl (zav rfl tb3 (ev1 rfl) rfl rfl) ?_
            refine zab rfl rfl rfl (zad (.inl rfl) (ev1 rfl)) ?_
            refine zab rfl rfl rfl ((op_shr (4) rfl (ev1 rfl) (ev1 rfl) (fun _ => ⟨rfl, by decide⟩)).cast (d' := .val (.int .i64 3)) (by kernel_rfl)) ?_
            refine zab rfl rfl rfl ((op_iand rfl (ev1 rfl) (ev1 rfl)).cast (d' := .val (.int .i64 1)) (by kernel_rfl)) ?_
            refine zab rfl rfl rfl ((zb rfl (ev1 rfl) (ev1 rfl)).cast (d' := .val (.bool true)) (by kernel_rfl)) ?_
            refine zab rfl rfl rfl (zad (.inl rfl) (ev1 rfl)) ?_
            refine zai (zar (b := true) rfl rfl rfl) rfl rfl rfl (zap rfl fo172_1 (ev1 rfl)) (by simp only [upd, za, zaa]; exact rfl) ?_
            refine zai (zar (b := true) rfl rfl rfl) rfl rfl rfl (zav rfl tb168 (ev2 rfl) rfl rfl) (by simp only [upd, za, zaa]; exact rfl) ?_
            refine zai (zar (b := true) rfl rfl rfl) rfl rfl rfl (op_ldmw rfl tb164 (ev1 rfl) rfl rfl) (by simp only [upd, za, zaa]; exact rfl) ?_
            refine zai (zar (b := true) rfl rfl rfl) rfl rfl rfl (zah [] [0] [] rfl (ev2 rfl) (ec (ev2 rfl) (ec (ev1 rfl) en)) rfl rfl (fit4_d _ _ _ _ _) rfl rfl rfl rfl rfl rfl) (by simp only [upd, za, zaa]; exact rfl) ?_
            refine zai (zar (b := true) rfl rfl rfl) rfl rfl rfl (op_not rfl (ev2 rfl)) (by simp only [upd, za, zaa]; exact rfl) ?_
            refine zab rfl rfl rfl (zaz rfl (ev1 rfl) (ev3 rfl (fun _ => rfl))) ?_
            refine zab rfl rfl rfl (zad (.inl rfl) (ev1 rfl)) ?_
            refine zag (zan rfl rfl rfl) rfl rfl rfl (zap rfl fo164_0 (ev1 rfl)) ?_
            refine zag (zan rfl rfl rfl) rfl rfl rfl (zav rfl tb3 (ev2 rfl) rfl rfl) ?_
            refine zag (zan rfl rfl rfl) rfl rfl rfl (zad (.inl rfl) (ev1 rfl)) ?_
            refine zag (zan rfl rfl rfl) rfl rfl rfl ((op_shr (4) rfl (ev2 rfl) (ev2 rfl) (fun _ => ⟨rfl, by decide⟩)).cast (d' := .val (.int .i64 3)) (by kernel_rfl)) ?_
            refine zag (zan rfl rfl rfl) rfl rfl rfl ((op_iand rfl (ev2 rfl) (ev1 rfl)).cast (d' := .val (.int .i64 1)) (by kernel_rfl)) ?_
            refine zag (zan rfl rfl rfl) rfl rfl rfl ((zb rfl (ev2 rfl) (ev1 rfl)).cast (d' := .val (.bool false)) (by kernel_rfl)) ?_
            refine zag (zan rfl rfl rfl) rfl rfl rfl (zad (.inl rfl) (ev2 rfl)) ?_
            refine zag (zay rfl rfl rfl) rfl rfl rfl (zap rfl fo172_2 (ev1 rfl)) ?_
            refine zag (zay rfl rfl rfl) rfl rfl rfl (zav rfl tb169 (ev2 rfl) rfl rfl) ?_
            refine zag (zay rfl rfl rfl) rfl rfl rfl (zah [] [0] [] rfl (ev2 rfl) (ec (ev1 rfl) en) rfl rfl (blk4_d _) rfl rfl rfl rfl rfl rfl) ?_
            refine zag (zay rfl rfl rfl) rfl rfl rfl (op_not rfl (ev2 rfl)) ?_
            refine zag (zan rfl rfl rfl) rfl rfl rfl ((zaz rfl (ev2 rfl) (ev2 rfl)).cast (d' := .val (.bool false)) (by rfl)) ?_
            refine zab rfl rfl rfl (op_or rfl (ev1 rfl) (ev3 rfl id)) ?_
            refine zae ?_
            refine zaw rfl (fun c11 => ?_) (fun c11 => ?_)
            · refine zaf ?_
              refine zac ?_
              refine zab rfl rfl rfl (zad (.inr rfl) (ev1 rfl)) ?_
              refine zae ?_
              refine zau ?_
              refine kend0 (rs1 rfl (rv_t rfl)) rfl ?_
              have hb : opB o = false := by
                unfold opB
                simp_all [mostK, errz, eqI_dec, errOr_z]
                all_goals (first | (intros; omega) | (intros; simp_all; done))
              rw [hb]
              rfl
            · refine zak ?_
              refine zac ?_
              refine zab rfl rfl rfl ((op_add' rfl (ev1 rfl) (ev1 rfl) (fun _ => IntWalk.i64_in _ (by omega))).cast (d' := .val (.int .i64 5)) (by kernel_rfl)) ?_
              refine zab rfl rfl rfl (zad (.inl rfl) (ev1 rfl)) ?_
              refine zae ?_
              refine dloop_step ?_
              refine zaf ?_
              refine zac ?_
              refine zab rfl rfl rfl ((op_lss rfl (ev1 rfl) (ev1 rfl)).cast (d' := .val (.bool true)) (by kernel_rfl)) ?_
              refine zae ?_
              refine zaf ?_
              refine dwp_if_t rfl (rfl) ?_
              refine zak ?_
              refine zaf ?_
              refine zat ?_
              refine zaf ?_
              refine zaj 1 (by simp only [holes, List.cons_append, List.nil_append]; exact rfl) ?_
              refine zac ?_
              refine zab rfl rfl rfl (zad (.inl rfl) (ev1 rfl)) ?_
              refine zab rfl rfl rfl (op_ixwr (5) rfl av173 (ev1 rfl) (ev1 rfl) (fun _ => rfl) (fun _ => by decide) (Nat.le_of_ble_eq_true rfl)) ?_
              refine zam rfl rfl rfl (zaq 7 rfl zr172 rfl) (by simp only [upd, za, zaa]; exact rfl) ?_
              refine zab rfl rfl rfl (zad (.inr rfl) (ev1 rfl)) ?_
              refine zax rfl rfl (op_stam rfl tb172 (ev1 rfl) (ev1 rfl) rfl rfl rfl rfl) (by simp only [upd, za, zaa]; exact rfl) ?_
              refine zae ?_
              refine zaf ?_
              refine zac ?_
              refine zab rfl rfl rfl (zap rfl fo164_0 (ev1 rfl)) ?_
              refine zab rfl rfl rfl (zav rfl tb3 (ev1 rfl) rfl rfl) ?_
              refine zab rfl rfl rfl (zad (.inl rfl) (ev1 rfl)) ?_
              refine zab rfl rfl rfl ((op_shr (5) rfl (ev1 rfl) (ev1 rfl) (fun _ => ⟨rfl, by decide⟩)).cast (d' := .val (.int .i64 1)) (by kernel_rfl)) ?_
              refine zab rfl rfl rfl ((op_iand rfl (ev1 rfl) (ev1 rfl)).cast (d' := .val (.int .i64 1)) (by kernel_rfl)) ?_
              refine zab rfl rfl rfl ((zb rfl (ev1 rfl) (ev1 rfl)).cast (d' := .val (.bool true)) (by kernel_rfl)) ?_
              refine zab rfl rfl rfl (zad (.inl rfl) (ev1 rfl)) ?_
              refine zai (zar (b := true) rfl rfl rfl) rfl rfl rfl (zap rfl fo172_1 (ev1 rfl)) (by simp only [upd, za, zaa]; exact rfl) ?_
              refine zai (zar (b := true) rfl rfl rfl) rfl rfl rfl (zav rfl tb168 (ev2 rfl) rfl rfl) (by simp only [upd, za, zaa]; exact rfl) ?_
              refine zai (zar (b := true) rfl rfl rfl) rfl rfl rfl (op_ldmw rfl tb164 (ev1 rfl) rfl rfl) (by simp only [upd, za, zaa]; exact rfl) ?_
              refine zai (zar (b := true) rfl rfl rfl) rfl rfl rfl (zah [] [0] [] rfl (ev2 rfl) (ec (ev2 rfl) (ec (ev1 rfl) en)) rfl rfl (fit5_d _ _ _ _ _) rfl rfl rfl rfl rfl rfl) (by simp only [upd, za, zaa]; exact rfl) ?_
              refine zai (zar (b := true) rfl rfl rfl) rfl rfl rfl (op_not rfl (ev2 rfl)) (by simp only [upd, za, zaa]; exact rfl) ?_
              refine zab rfl rfl rfl (zaz rfl (ev1 rfl) (ev3 rfl (fun _ => rfl))) ?_
              refine zab rfl rfl rfl (zad (.inl rfl) (ev1 rfl)) ?_
              refine zag (zan rfl rfl rfl) rfl rfl rfl (zap rfl fo164_0 (ev1 rfl)) ?_
              refine zag (zan rfl rfl rfl) rfl rfl rfl (zav rfl tb3 (ev2 rfl) rfl rfl) ?_
              refine zag (zan rfl rfl rfl) rfl rfl rfl (zad (.inl rfl) (ev1 rfl)) ?_
              refine zag (zan rfl rfl rfl) rfl rfl rfl ((op_shr (5) rfl (ev2 rfl) (ev2 rfl) (fun _ => ⟨rfl, by decide⟩)).cast (d' := .val (.int .i64 1)) (by kernel_rfl)) ?_
              refine zag (zan rfl rfl rfl) rfl rfl rfl ((op_iand rfl (ev2 rfl) (ev1 rfl)).cast (d' := .val (.int .i64 1)) (by kernel_rfl)) ?_
              refine zag (zan rfl rfl rfl) rfl rfl rfl ((zb rfl (ev2 rfl) (ev1 rfl)).cast (d' := .val (.bool false)) (by kernel_rfl)) ?_
              refine zag (zan rfl rfl rfl) rfl rfl rfl (zad (.inl rfl) (ev2 rfl)) ?_
              refine zag (zay rfl rfl rfl) rfl rfl rfl (zap rfl fo172_2 (ev1 rfl)) ?_
              refine zag (zay rfl rfl rfl) rfl rfl rfl (zav rfl tb169 (ev2 rfl) rfl rfl) ?_
              refine zag (zay rfl rfl rfl) rfl rfl rfl (zah [] [0] [] rfl (ev2 rfl) (ec (ev1 rfl) en) rfl rfl (blk5_d _) rfl rfl rfl rfl rfl rfl) ?_
              refine zag (zay rfl rfl rfl) rfl rfl rfl (op_not rfl (ev2 rfl)) ?_
              refine zag (zan rfl rfl rfl) rfl rfl rfl ((zaz rfl (ev2 rfl) (ev2 rfl)).cast (d' := .val (.bool false)) (by rfl)) ?_
              refine zab rfl rfl rfl (op_or rfl (ev1 rfl) (ev3 rfl id)) ?_
              refine zae ?_
              refine zaw rfl (fun c13 => ?_) (fun c13 => ?_)
              · refine zaf ?_
                refine zac ?_
                refine zab rfl rfl rfl (zad (.inr rfl) (ev1 rfl)) ?_
                refine zae ?_
                refine zau ?_
                refine kend0 (rs1 rfl (rv_t rfl)) rfl ?_
                have hb : opB o = false := by
                  unfold opB
                  simp_all [mostK, errz, eqI_dec, errOr_z]
                  all_goals (first | (intros; omega) | (intros; simp_all; done))
                rw [hb]
                rfl
              · refine zak ?_
                refine zac ?_
                refine zab rfl rfl rfl ((op_add' rfl (ev1 rfl) (ev1 rfl) (fun _ => IntWalk.i64_in _ (by omega))).cast (d' := .val (.int .i64 6)) (by kernel_rfl)) ?_
                refine zab rfl rfl rfl (zad (.inl rfl) (ev1 rfl)) ?_
                refine zae ?_
                refine dloop_step ?_
                refine zaf ?_
                refine zac ?_
                refine zab rfl rfl rfl ((op_lss rfl (ev1 rfl) (ev1 rfl)).cast (d' := .val (.bool true)) (by kernel_rfl)) ?_
                refine zae ?_
                refine zaf ?_
                refine dwp_if_t rfl (rfl) ?_
                refine zak ?_
                refine zaf ?_
                refine zat ?_
                refine zaf ?_
                refine zaj 1 (by simp only [holes, List.cons_append, List.nil_append]; exact rfl) ?_
                refine zac ?_
                refine zab rfl rfl rfl (zad (.inl rfl) (ev1 rfl)) ?_
                refine zab rfl rfl rfl (op_ixwr (6) rfl av173 (ev1 rfl) (ev1 rfl) (fun _ => rfl) (fun _ => by decide) (Nat.le_of_ble_eq_true rfl)) ?_
                refine zam rfl rfl rfl (zaq 8 rfl zr172 rfl) (by simp only [upd, za, zaa]; exact rfl) ?_
                refine zab rfl rfl rfl (zad (.inr rfl) (ev1 rfl)) ?_
                refine zax rfl rfl (op_stam rfl tb172 (ev1 rfl) (ev1 rfl) rfl rfl rfl rfl) (by simp only [upd, za, zaa]; exact rfl) ?_
                refine zae ?_
                refine zaf ?_
                refine zac ?_
                refine zab rfl rfl rfl (zap rfl fo164_0 (ev1 rfl)) ?_
                refine zab rfl rfl rfl (zav rfl tb3 (ev1 rfl) rfl rfl) ?_
                refine zab rfl rfl rfl (zad (.inl rfl) (ev1 rfl)) ?_
                refine zab rfl rfl rfl ((op_shr (6) rfl (ev1 rfl) (ev1 rfl) (fun _ => ⟨rfl, by decide⟩)).cast (d' := .val (.int .i64 0)) (by kernel_rfl)) ?_
                refine zab rfl rfl rfl ((op_iand rfl (ev1 rfl) (ev1 rfl)).cast (d' := .val (.int .i64 0)) (by kernel_rfl)) ?_
                refine zab rfl rfl rfl ((zb rfl (ev1 rfl) (ev1 rfl)).cast (d' := .val (.bool false)) (by kernel_rfl)) ?_
                refine zab rfl rfl rfl (zad (.inl rfl) (ev1 rfl)) ?_
                refine zag (zar (b := false) rfl rfl rfl) rfl rfl rfl (zal (d := .junk)) ?_
                refine zag (zar (b := false) rfl rfl rfl) rfl rfl rfl (zal (d := .junk)) ?_
                refine zag (zar (b := false) rfl rfl rfl) rfl rfl rfl (zal (d := .junk)) ?_
                refine zag (zar (b := false) rfl rfl rfl) rfl rfl rfl (zal (d := .val (.bool false))) ?_
                refine zag (zar (b := false) rfl rfl rfl) rfl rfl rfl (zal (d := .val (.bool false))) ?_
                refine zab rfl rfl rfl ((zaz rfl (ev1 rfl) (ev3 rfl id)).cast (d' := .val (.bool false)) (by rfl)) ?_
                refine zab rfl rfl rfl (zad (.inl rfl) (ev1 rfl)) ?_
                refine zai (zan (b := false) rfl rfl rfl) rfl rfl rfl (zap rfl fo164_0 (ev1 rfl)) (by simp only [upd, za, zaa]; exact rfl) ?_
                refine zai (zan (b := false) rfl rfl rfl) rfl rfl rfl (zav rfl tb3 (ev2 rfl) rfl rfl) (by simp only [upd, za, zaa]; exact rfl) ?_
                refine zai (zan (b := false) rfl rfl rfl) rfl rfl rfl (zad (.inl rfl) (ev1 rfl)) (by simp only [upd, za, zaa]; exact rfl) ?_
                refine zai (zan (b := false) rfl rfl rfl) rfl rfl rfl ((op_shr (6) rfl (ev2 rfl) (ev2 rfl) (fun _ => ⟨rfl, by decide⟩)).cast (d' := .val (.int .i64 0)) (by kernel_rfl)) (by simp only [upd, za, zaa]; exact rfl) ?_
                refine zai (zan (b := false) rfl rfl rfl) rfl rfl rfl ((op_iand rfl (ev2 rfl) (ev1 rfl)).cast (d' := .val (.int .i64 0)) (by kernel_rfl)) (by simp only [upd, za, zaa]; exact rfl) ?_
                refine zai (zan (b := false) rfl rfl rfl) rfl rfl rfl ((zb rfl (ev2 rfl) (ev1 rfl)).cast (d' := .val (.bool true)) (by kernel_rfl)) (by simp only [upd, za, zaa]; exact rfl) ?_
                refine zai (zan (b := false) rfl rfl rfl) rfl rfl rfl (zad (.inl rfl) (ev2 rfl)) (by simp only [upd, za, zaa]; exact rfl) ?_
                refine zai (zay (g := true) (b := true) rfl rfl rfl) rfl rfl rfl (zap rfl fo172_2 (ev1 rfl)) (by simp only [upd, za, zaa]; exact rfl) ?_
                refine zai (zay (g := true) (b := true) rfl rfl rfl) rfl rfl rfl (zav rfl tb169 (ev2 rfl) rfl rfl) (by simp only [upd, za, zaa]; exact rfl) ?_
                refine zai (zay (g := true) (b := true) rfl rfl rfl) rfl rfl rfl (zah [] [0] [] rfl (ev2 rfl) (ec (ev1 rfl) en) rfl rfl (blk6_d _) rfl rfl rfl rfl rfl rfl) (by simp only [upd, za, zaa]; exact rfl) ?_
                refine zai (zay (g := true) (b := true) rfl rfl rfl) rfl rfl rfl (op_not rfl (ev2 rfl)) (by simp only [upd, za, zaa]; exact rfl) ?_
                refine zai (zan (b := false) rfl rfl rfl) rfl rfl rfl (zaz rfl (ev2 rfl) (ev3 rfl (fun _ => rfl))) (by simp only [upd, za, zaa]; exact rfl) ?_
                refine zab rfl rfl rfl (op_or rfl (ev1 rfl) (ev3 rfl (fun _ => rfl))) ?_
                refine zae ?_
                refine zaw rfl (fun c15 => ?_) (fun c15 => ?_)
                · refine zaf ?_
                  refine zac ?_
                  refine zab rfl rfl rfl (zad (.inr rfl) (ev1 rfl)) ?_
                  refine zae ?_
                  refine zau ?_
                  refine kend0 (rs1 rfl (rv_t rfl)) rfl ?_
                  have hb : opB o = false := by
                    unfold opB
                    simp_all [mostK, errz, eqI_dec, errOr_z]
                    all_goals (first | (intros; omega) | (intros; simp_all; done))
                  rw [hb]
                  rfl
                · refine zak ?_
                  refine zac ?_
                  refine zab rfl rfl rfl ((op_add' rfl (ev1 rfl) (ev1 rfl) (fun _ => IntWalk.i64_in _ (by omega))).cast (d' := .val (.int .i64 7)) (by kernel_rfl)) ?_
                  refine zab rfl rfl rfl (zad (.inl rfl) (ev1 rfl)) ?_
                  refine zae ?_
                  refine dloop_step ?_
                  refine zaf ?_
                  refine zac ?_
                  refine zab rfl rfl rfl ((op_lss rfl (ev1 rfl) (ev1 rfl)).cast (d' := .val (.bool true)) (by kernel_rfl)) ?_
                  refine zae ?_
                  refine zaf ?_
                  refine dwp_if_t rfl (rfl) ?_
                  refine zak ?_
                  refine zaf ?_
                  refine zat ?_
                  refine zaf ?_
                  refine zaj 1 (by simp only [holes, List.cons_append, List.nil_append]; exact rfl) ?_
                  refine zac ?_
                  refine zab rfl rfl rfl (zad (.inl rfl) (ev1 rfl)) ?_
                  refine zab rfl rfl rfl (op_ixwr (7) rfl av173 (ev1 rfl) (ev1 rfl) (fun _ => rfl) (fun _ => by decide) (Nat.le_of_ble_eq_true rfl)) ?_
                  refine zam rfl rfl rfl (zaq 9 rfl zr172 rfl) (by simp only [upd, za, zaa]; exact rfl) ?_
                  refine zab rfl rfl rfl (zad (.inr rfl) (ev1 rfl)) ?_
                  refine zax rfl rfl (op_stam rfl tb172 (ev1 rfl) (ev1 rfl) rfl rfl rfl rfl) (by simp only [upd, za, zaa]; exact rfl) ?_
                  refine zae ?_
                  refine zaf ?_
                  refine zac ?_
                  refine zab rfl rfl rfl (zap rfl fo164_0 (ev1 rfl)) ?_
                  refine zab rfl rfl rfl (zav rfl tb3 (ev1 rfl) rfl rfl) ?_
                  refine zab rfl rfl rfl (zad (.inl rfl) (ev1 rfl)) ?_
                  refine zab rfl rfl rfl ((op_shr (7) rfl (ev1 rfl) (ev1 rfl) (fun _ => ⟨rfl, by decide⟩)).cast (d' := .val (.int .i64 0)) (by kernel_rfl)) ?_
                  refine zab rfl rfl rfl ((op_iand rfl (ev1 rfl) (ev1 rfl)).cast (d' := .val (.int .i64 0)) (by kernel_rfl)) ?_
                  refine zab rfl rfl rfl ((zb rfl (ev1 rfl) (ev1 rfl)).cast (d' := .val (.bool false)) (by kernel_rfl)) ?_
                  refine zab rfl rfl rfl (zad (.inl rfl) (ev1 rfl)) ?_
                  refine zag (zar (b := false) rfl rfl rfl) rfl rfl rfl (zal (d := .junk)) ?_
                  refine zag (zar (b := false) rfl rfl rfl) rfl rfl rfl (zal (d := .junk)) ?_
                  refine zag (zar (b := false) rfl rfl rfl) rfl rfl rfl (zal (d := .junk)) ?_
                  refine zag (zar (b := false) rfl rfl rfl) rfl rfl rfl (zal (d := .val (.bool false))) ?_
                  refine zag (zar (b := false) rfl rfl rfl) rfl rfl rfl (zal (d := .val (.bool false))) ?_
                  refine zab rfl rfl rfl ((zaz rfl (ev1 rfl) (ev3 rfl id)).cast (d' := .val (.bool false)) (by rfl)) ?_
                  refine zab rfl rfl rfl (zad (.inl rfl) (ev1 rfl)) ?_
                  refine zai (zan (b := false) rfl rfl rfl) rfl rfl rfl (zap rfl fo164_0 (ev1 rfl)) (by simp only [upd, za, zaa]; exact rfl) ?_
                  refine zai (zan (b := false) rfl rfl rfl) rfl rfl rfl (zav rfl tb3 (ev2 rfl) rfl rfl) (by simp only [upd, za, zaa]; exact rfl) ?_
                  refine zai (zan (b := false) rfl rfl rfl) rfl rfl rfl (zad (.inl rfl) (ev1 rfl)) (by simp only [upd, za, zaa]; exact rfl) ?_
                  refine zai (zan (b := false) rfl rfl rfl) rfl rfl rfl ((op_shr (7) rfl (ev2 rfl) (ev2 rfl) (fun _ => ⟨rfl, by decide⟩)).cast (d' := .val (.int .i64 0)) (by kernel_rfl)) (by simp only [upd, za, zaa]; exact rfl) ?_
                  refine zai (zan (b := false) rfl rfl rfl) rfl rfl rfl ((op_iand rfl (ev2 rfl) (ev1 rfl)).cast (d' := .val (.int .i64 0)) (by kernel_rfl)) (by simp only [upd, za, zaa]; exact rfl) ?_
                  refine zai (zan (b := false) rfl rfl rfl) rfl rfl rfl ((zb rfl (ev2 rfl) (ev1 rfl)).cast (d' := .val (.bool true)) (by kernel_rfl)) (by simp only [upd, za, zaa]; exact rfl) ?_
                  refine zai (zan (b := false) rfl rfl rfl) rfl rfl rfl (zad (.inl rfl) (ev2 rfl)) (by simp only [upd, za, zaa]; exact rfl) ?_
                  refine zai (zay (g := true) (b := true) rfl rfl rfl) rfl rfl rfl (zap rfl fo172_2 (ev1 rfl)) (by simp only [upd, za, zaa]; exact rfl) ?_
                  refine zai (zay (g := true) (b := true) rfl rfl rfl) rfl rfl rfl (zav rfl tb169 (ev2 rfl) rfl rfl) (by simp only [upd, za, zaa]; exact rfl) ?_
                  refine zai (zay (g := true) (b := true) rfl rfl rfl) rfl rfl rfl (zah [] [0] [] rfl (ev2 rfl) (ec (ev1 rfl) en) rfl rfl (blk7_d _) rfl rfl rfl rfl rfl rfl) (by simp only [upd, za, zaa]; exact rfl) ?_
                  refine zai (zay (g := true) (b := true) rfl rfl rfl) rfl rfl rfl (op_not rfl (ev2 rfl)) (by simp only [upd, za, zaa]; exact rfl) ?_
                  refine zai (zan (b := false) rfl rfl rfl) rfl rfl rfl (zaz rfl (ev2 rfl) (ev3 rfl (fun _ => rfl))) (by simp only [upd, za, zaa]; exact rfl) ?_
                  refine zab rfl rfl rfl (op_or rfl (ev1 rfl) (ev3 rfl (fun _ => rfl))) ?_
                  refine zae ?_
                  refine zaw rfl (fun c17 => ?_) (fun c17 => ?_)
                  · refine zaf ?_
                    refine zac ?_
                    refine zab rfl rfl rfl (zad (.inr rfl) (ev1 rfl)) ?_
                    refine zae ?_
                    refine zau ?_
                    refine kend0 (rs1 rfl (rv_t rfl)) rfl ?_
                    have hb : opB o = false := by
                      unfold opB
                      simp_all [mostK, errz, eqI_dec, errOr_z]
                      all_goals (first | (intros; omega) | (intros; simp_all; done))
                    rw [hb]
                    rfl
                  · refine zak ?_
                    refine zac ?_
                    refine zab rfl rfl rfl ((op_add' rfl (ev1 rfl) (ev1 rfl) (fun _ => IntWalk.i64_in _ (by omega))).cast (d' := .val (.int .i64 8)) (by kernel_rfl)) ?_
                    refine zab rfl rfl rfl (zad (.inl rfl) (ev1 rfl)) ?_
                    refine zae ?_
                    refine dloop_step ?_
                    refine zaf ?_
                    refine zac ?_
                    refine zab rfl rfl rfl ((op_lss rfl (ev1 rfl) (ev1 rfl)).cast (d' := .val (.bool false)) (by kernel_rfl)) ?_
                    refine zae ?_
                    refine zaf ?_
                    refine dwp_if_f rfl (rfl) ?_
                    refine dwp_exit ?_
                    refine zaf ?_
                    refine zac ?_
                    refine zab rfl rfl rfl (zad (.inr rfl) (ev1 rfl)) ?_
                    refine zae ?_
                    refine zau ?_
                    refine kend0 (rs1 rfl (rv_t rfl)) rfl ?_
                    have hb : opB o = true := by
                      unfold opB
                      simp_all [mostK, errz, eqI_dec, errOr_z]
                      all_goals (first | (intros; omega) | (intros; simp_all; done))
                    rw [hb]
                    rfl
set_option maxRecDepth 4000 in
set_option maxHeartbeats 1000000 in
theorem opc_2 (o : OpM) (hk : o.kd = 2) : DFun Tryz.prog 92 [.agg (opD o)] [] (.val (.int .i64 (errOr (opB o) 220))) [] := by
  refine zba (N := 54) 0 (by kernel_rfl) Tryz.func92 rfl rfl rfl (by simp only [fr0, Nat.zero_add, Nat.reduceAdd]; exact rfl) rfl fun s0 hs0 => ?_
  refine zaf ?_
  refine zaj 1 (by simp only [holes, List.cons_append, List.nil_append]; exact rfl) ?_
  refine zac ?_
  refine zam rfl rfl rfl (op_boxam 0 rfl (ev1 rfl) rfl) (by simp only [upd, za, zaa]; exact rfl) ?_
  refine zab rfl rfl rfl (zad (.inr rfl) (ev1 rfl)) ?_
  refine zae ?_
  refine zaf ?_
  refine zaj 1 (by simp only [holes, List.cons_append, List.nil_append]; exact rfl) ?_
  refine zac ?_
  refine zab rfl rfl rfl (zap rfl fo68_1 (ev1 rfl)) ?_
  refine zab rfl rfl rfl ((zav rfl tb3 (ev1 rfl) rfl rfl : DOp _ _ _ _ _ _ (.val (.int .i64 o.kd)) _).cast (d' := .val (.int .i64 2)) (by rw [hk])) ?_
  refine zab rfl rfl rfl (zah [] [] [] rfl (ev1 rfl) (ec (ev1 rfl) en) rfl rfl (kindOf_2) rfl rfl rfl rfl rfl rfl) ?_
  refine zab rfl rfl rfl (zad (.inl rfl) (ev1 rfl)) ?_
  refine zab rfl rfl rfl (op_ext rfl (ev1 rfl) rfl) ?_
  refine zab rfl rfl rfl (op_ext rfl (ev1 rfl) rfl) ?_
  refine zam rfl rfl rfl (zaq 1 rfl zr164 rfl) (by simp only [upd, za, zaa]; exact rfl) ?_
  refine zax rfl rfl (op_stam rfl tb164 (ev1 rfl) (ev1 rfl) rfl rfl rfl rfl) (by simp only [upd, za, zaa]; exact rfl) ?_
  refine zab rfl rfl rfl (zad (.inr rfl) (ev1 rfl)) ?_
  refine zae ?_
  refine zaf ?_
  refine zaf ?_
  refine zac ?_
  refine zab rfl rfl rfl (zad (.inl rfl) (ev1 rfl)) ?_
  refine zab rfl rfl rfl ((op_not rfl (ev1 rfl)).cast (d' := .val (.bool false)) (by kernel_rfl)) ?_
  refine zab rfl rfl rfl (zad (.inl rfl) (ev1 rfl)) ?_
  refine zai (zan (b := false) rfl rfl rfl) rfl rfl rfl (zap rfl fo68_0 (ev1 rfl)) (by simp only [upd, za, zaa]; exact rfl) ?_
  refine zai (zan (b := false) rfl rfl rfl) rfl rfl rfl (op_ldmv (R := [_, _, _]) rfl tb61 (ev2 rfl) rfl rfl rfl) (by simp only [upd, za, zaa]; exact rfl) ?_
  refine zai (zan (b := false) rfl rfl rfl) rfl rfl rfl (zah [] [] [] rfl (ev1 rfl) (ec (ev2 rfl) en) rfl rfl (idCheck_d _) rfl rfl rfl rfl rfl rfl) (by simp only [upd, za, zaa]; exact rfl) ?_
  refine zai (zan (b := false) rfl rfl rfl) rfl rfl rfl (op_neq rfl (ev2 rfl) (ev1 rfl)) (by simp only [upd, za, zaa]; exact rfl) ?_
  refine zab rfl rfl rfl (op_or rfl (ev1 rfl) (ev3 rfl (fun _ => rfl))) ?_
  refine zae ?_
  refine zaw rfl (fun c1 => ?_) (fun c1 => ?_)
  · refine zaf ?_
    refine zac ?_
    refine zab rfl rfl rfl (zad (.inr rfl) (ev1 rfl)) ?_
    refine zae ?_
    refine zau ?_
    refine kend0 (rs1 rfl (rv_t rfl)) rfl ?_
    have hb : opB o = false := by
      unfold opB
      simp_all [mostK, errz, eqI_dec, errOr_z]
      all_goals (first | (intros; omega) | (intros; simp_all; done))
    rw [hb]
    rfl
  · refine zak ?_
    refine zaf ?_
    refine zaf ?_
    refine zac ?_
    refine zab rfl rfl rfl (zah [] [] [] rfl (ev1 rfl) en rfl rfl (fields_d) rfl rfl rfl rfl rfl rfl) ?_
    refine zab rfl rfl rfl (zad (.inl rfl) (ev1 rfl)) ?_
    refine zae ?_
    refine zat ?_
    refine dwp_dloop (dloop_step ?_)
    refine zaf ?_
    refine zac ?_
    refine zab rfl rfl rfl ((op_lss rfl (ev1 rfl) (ev1 rfl)).cast (d' := .val (.bool true)) (by kernel_rfl)) ?_
    refine zae ?_
    refine zaf ?_
    refine dwp_if_t rfl (rfl) ?_
    refine zak ?_
    refine zaf ?_
    refine zat ?_
    refine zaf ?_
    refine zaj 1 (by simp only [holes, List.cons_append, List.nil_append]; exact rfl) ?_
    refine zac ?_
    refine zab rfl rfl rfl (zad (.inl rfl) (ev1 rfl)) ?_
    refine zab rfl rfl rfl (op_ixwr (0) rfl av173 (ev1 rfl) (ev1 rfl) (fun _ => rfl) (fun _ => by decide) (Nat.le_of_ble_eq_true rfl)) ?_
    refine zam rfl rfl rfl (zaq 2 rfl zr172 rfl) (by simp only [upd, za, zaa]; exact rfl) ?_
    refine zab rfl rfl rfl (zad (.inr rfl) (ev1 rfl)) ?_
    refine zax rfl rfl (op_stam rfl tb172 (ev1 rfl) (ev1 rfl) rfl rfl rfl rfl) (by simp only [upd, za, zaa]; exact rfl) ?_
    refine zae ?_
    refine zaf ?_
    refine zac ?_
    refine zab rfl rfl rfl (zap rfl fo164_0 (ev1 rfl)) ?_
    refine zab rfl rfl rfl (zav rfl tb3 (ev1 rfl) rfl rfl) ?_
    refine zab rfl rfl rfl (zad (.inl rfl) (ev1 rfl)) ?_
    refine zab rfl rfl rfl ((op_shr (0) rfl (ev1 rfl) (ev1 rfl) (fun _ => ⟨rfl, by decide⟩)).cast (d' := .val (.int .i64 63)) (by kernel_rfl)) ?_
    refine zab rfl rfl rfl ((op_iand rfl (ev1 rfl) (ev1 rfl)).cast (d' := .val (.int .i64 1)) (by kernel_rfl)) ?_
    refine zab rfl rfl rfl ((zb rfl (ev1 rfl) (ev1 rfl)).cast (d' := .val (.bool true)) (by kernel_rfl)) ?_
    refine zab rfl rfl rfl (zad (.inl rfl) (ev1 rfl)) ?_
    refine zai (zar (b := true) rfl rfl rfl) rfl rfl rfl (zap rfl fo172_1 (ev1 rfl)) (by simp only [upd, za, zaa]; exact rfl) ?_
    refine zai (zar (b := true) rfl rfl rfl) rfl rfl rfl (zav rfl tb168 (ev2 rfl) rfl rfl) (by simp only [upd, za, zaa]; exact rfl) ?_
    refine zai (zar (b := true) rfl rfl rfl) rfl rfl rfl (op_ldmw rfl tb164 (ev1 rfl) rfl rfl) (by simp only [upd, za, zaa]; exact rfl) ?_
    refine zai (zar (b := true) rfl rfl rfl) rfl rfl rfl (zah [] [0] [] rfl (ev2 rfl) (ec (ev2 rfl) (ec (ev1 rfl) en)) rfl rfl (fit0_d _ _ _ _ _) rfl rfl rfl rfl rfl rfl) (by simp only [upd, za, zaa]; exact rfl) ?_
    refine zai (zar (b := true) rfl rfl rfl) rfl rfl rfl (op_not rfl (ev2 rfl)) (by simp only [upd, za, zaa]; exact rfl) ?_
    refine zab rfl rfl rfl (zaz rfl (ev1 rfl) (ev3 rfl (fun _ => rfl))) ?_
    refine zab rfl rfl rfl (zad (.inl rfl) (ev1 rfl)) ?_
    refine zag (zan rfl rfl rfl) rfl rfl rfl (zap rfl fo164_0 (ev1 rfl)) ?_
    refine zag (zan rfl rfl rfl) rfl rfl rfl (zav rfl tb3 (ev2 rfl) rfl rfl) ?_
    refine zag (zan rfl rfl rfl) rfl rfl rfl (zad (.inl rfl) (ev1 rfl)) ?_
    refine zag (zan rfl rfl rfl) rfl rfl rfl ((op_shr (0) rfl (ev2 rfl) (ev2 rfl) (fun _ => ⟨rfl, by decide⟩)).cast (d' := .val (.int .i64 63)) (by kernel_rfl)) ?_
    refine zag (zan rfl rfl rfl) rfl rfl rfl ((op_iand rfl (ev2 rfl) (ev1 rfl)).cast (d' := .val (.int .i64 1)) (by kernel_rfl)) ?_
    refine zag (zan rfl rfl rfl) rfl rfl rfl ((zb rfl (ev2 rfl) (ev1 rfl)).cast (d' := .val (.bool false)) (by kernel_rfl)) ?_
    refine zag (zan rfl rfl rfl) rfl rfl rfl (zad (.inl rfl) (ev2 rfl)) ?_
    refine zag (zay rfl rfl rfl) rfl rfl rfl (zap rfl fo172_2 (ev1 rfl)) ?_
    refine zag (zay rfl rfl rfl) rfl rfl rfl (zav rfl tb169 (ev2 rfl) rfl rfl) ?_
    refine zag (zay rfl rfl rfl) rfl rfl rfl (zah [] [0] [] rfl (ev2 rfl) (ec (ev1 rfl) en) rfl rfl (blk0_d _) rfl rfl rfl rfl rfl rfl) ?_
    refine zag (zay rfl rfl rfl) rfl rfl rfl (op_not rfl (ev2 rfl)) ?_
    refine zag (zan rfl rfl rfl) rfl rfl rfl ((zaz rfl (ev2 rfl) (ev2 rfl)).cast (d' := .val (.bool false)) (by rfl)) ?_
    refine zab rfl rfl rfl (op_or rfl (ev1 rfl) (ev3 rfl id)) ?_
    refine zae ?_
    refine zaw rfl (fun c3 => ?_) (fun c3 => ?_)
    · refine zaf ?_
      refine zac ?_
      refine zab rfl rfl rfl (zad (.inr rfl) (ev1 rfl)) ?_
      refine zae ?_
      refine zau ?_
      refine kend0 (rs1 rfl (rv_t rfl)) rfl ?_
      have hb : opB o = false := by
        unfold opB
        simp_all [mostK, errz, eqI_dec, errOr_z]
        all_goals (first | (intros; omega) | (intros; simp_all; done))
      rw [hb]
      rfl
    · refine zak ?_
      refine zac ?_
      refine zab rfl rfl rfl ((op_add' rfl (ev1 rfl) (ev1 rfl) (fun _ => IntWalk.i64_in _ (by omega))).cast (d' := .val (.int .i64 1)) (by kernel_rfl)) ?_
      refine zab rfl rfl rfl (zad (.inl rfl) (ev1 rfl)) ?_
      refine zae ?_
      refine dloop_step ?_
      refine zaf ?_
      refine zac ?_
      refine zab rfl rfl rfl ((op_lss rfl (ev1 rfl) (ev1 rfl)).cast (d' := .val (.bool true)) (by kernel_rfl)) ?_
      refine zae ?_
      refine zaf ?_
      refine dwp_if_t rfl (rfl) ?_
      refine zak ?_
      refine zaf ?_
      refine zat ?_
      refine zaf ?_
      refine zaj 1 (by simp only [holes, List.cons_append, List.nil_append]; exact rfl) ?_
      refine zac ?_
      refine zab rfl rfl rfl (zad (.inl rfl) (ev1 rfl)) ?_
      refine zab rfl rfl rfl (op_ixwr (1) rfl av173 (ev1 rfl) (ev1 rfl) (fun _ => rfl) (fun _ => by decide) (Nat.le_of_ble_eq_true rfl)) ?_
      refine zam rfl rfl rfl (zaq 3 rfl zr172 rfl) (by simp only [upd, za, zaa]; exact rfl) ?_
      refine zab rfl rfl rfl (zad (.inr rfl) (ev1 rfl)) ?_
      refine zax rfl rfl (op_stam rfl tb172 (ev1 rfl) (ev1 rfl) rfl rfl rfl rfl) (by simp only [upd, za, zaa]; exact rfl) ?_
      refine zae ?_
      refine zaf ?_
      refine zac ?_
      refine zab rfl rfl rfl (zap rfl fo164_0 (ev1 rfl)) ?_
      refine zab rfl rfl rfl (zav rfl tb3 (ev1 rfl) rfl rfl) ?_
      refine zab rfl rfl rfl (zad (.inl rfl) (ev1 rfl)) ?_
      refine zab rfl rfl rfl ((op_shr (1) rfl (ev1 rfl) (ev1 rfl) (fun _ => ⟨rfl, by decide⟩)).cast (d' := .val (.int .i64 31)) (by kernel_rfl)) ?_
      refine zab rfl rfl rfl ((op_iand rfl (ev1 rfl) (ev1 rfl)).cast (d' := .val (.int .i64 1)) (by kernel_rfl)) ?_
      refine zab rfl rfl rfl ((zb rfl (ev1 rfl) (ev1 rfl)).cast (d' := .val (.bool true)) (by kernel_rfl)) ?_
      refine zab rfl rfl rfl (zad (.inl rfl) (ev1 rfl)) ?_
      refine zai (zar (b := true) rfl rfl rfl) rfl rfl rfl (zap rfl fo172_1 (ev1 rfl)) (by simp only [upd, za, zaa]; exact rfl) ?_
      refine zai (zar (b := true) rfl rfl rfl) rfl rfl rfl (zav rfl tb168 (ev2 rfl) rfl rfl) (by simp only [upd, za, zaa]; exact rfl) ?_
      refine zai (zar (b := true) rfl rfl rfl) rfl rfl rfl (op_ldmw rfl tb164 (ev1 rfl) rfl rfl) (by simp only [upd, za, zaa]; exact rfl) ?_
      refine zai (zar (b := true) rfl rfl rfl) rfl rfl rfl (zah [] [0] [] rfl (ev2 rfl) (ec (ev2 rfl) (ec (ev1 rfl) en)) rfl rfl (fit1_d _ _ _ _ _) rfl rfl rfl rfl rfl rfl) (by simp only [upd, za, zaa]; exact rfl) ?_
      refine zai (zar (b := true) rfl rfl rfl) rfl rfl rfl (op_not rfl (ev2 rfl)) (by simp only [upd, za, zaa]; exact rfl) ?_
      refine zab rfl rfl rfl (zaz rfl (ev1 rfl) (ev3 rfl (fun _ => rfl))) ?_
      refine zab rfl rfl rfl (zad (.inl rfl) (ev1 rfl)) ?_
      refine zag (zan rfl rfl rfl) rfl rfl rfl (zap rfl fo164_0 (ev1 rfl)) ?_
      refine zag (zan rfl rfl rfl) rfl rfl rfl (zav rfl tb3 (ev2 rfl) rfl rfl) ?_
      refine zag (zan rfl rfl rfl) rfl rfl rfl (zad (.inl rfl) (ev1 rfl)) ?_
      refine zag (zan rfl rfl rfl) rfl rfl rfl ((op_shr (1) rfl (ev2 rfl) (ev2 rfl) (fun _ => ⟨rfl, by decide⟩)).cast (d' := .val (.int .i64 31)) (by kernel_rfl)) ?_
      refine zag (zan rfl rfl rfl) rfl rfl rfl ((op_iand rfl (ev2 rfl) (ev1 rfl)).cast (d' := .val (.int .i64 1)) (by kernel_rfl)) ?_
      refine zag (zan rfl rfl rfl) rfl rfl rfl ((zb rfl (ev2 rfl) (ev1 rfl)).cast (d' := .val (.bool false)) (by kernel_rfl)) ?_
      refine zag (zan rfl rfl rfl) rfl rfl rfl (zad (.inl rfl) (ev2 rfl)) ?_
      refine zag (zay rfl rfl rfl) rfl rfl rfl (zap rfl fo172_2 (ev1 rfl)) ?_
      refine zag (zay rfl rfl rfl) rfl rfl rfl (zav rfl tb169 (ev2 rfl) rfl rfl) ?_
      refine zag (zay rfl rfl rfl) rfl rfl rfl (zah [] [0] [] rfl (ev2 rfl) (ec (ev1 rfl) en) rfl rfl (blk1_d _) rfl rfl rfl rfl rfl rfl) ?_
      refine zag (zay rfl rfl rfl) rfl rfl rfl (op_not rfl (ev2 rfl)) ?_
      refine zag (zan rfl rfl rfl) rfl rfl rfl ((zaz rfl (ev2 rfl) (ev2 rfl)).cast (d' := .val (.bool false)) (by rfl)) ?_
      refine zab rfl rfl rfl (op_or rfl (ev1 rfl) (ev3 rfl id)) ?_
      refine zae ?_
      refine zaw rfl (fun c5 => ?_) (fun c5 => ?_)
      · refine zaf ?_
        refine zac ?_
        refine zab rfl rfl rfl (zad (.inr rfl) (ev1 rfl)) ?_
        refine zae ?_
        refine zau ?_
        refine kend0 (rs1 rfl (rv_t rfl)) rfl ?_
        have hb : opB o = false := by
          unfold opB
          simp_all [mostK, errz, eqI_dec, errOr_z]
          all_goals (first | (intros; omega) | (intros; simp_all; done))
        rw [hb]
        rfl
      · refine zak ?_
        refine zac ?_
        refine zab rfl rfl rfl ((op_add' rfl (ev1 rfl) (ev1 rfl) (fun _ => IntWalk.i64_in _ (by omega))).cast (d' := .val (.int .i64 2)) (by kernel_rfl)) ?_
        refine zab rfl rfl rfl (zad (.inl rfl) (ev1 rfl)) ?_
        refine zae ?_
        refine dloop_step ?_
        refine zaf ?_
        refine zac ?_
        refine zab rfl rfl rfl ((op_lss rfl (ev1 rfl) (ev1 rfl)).cast (d' := .val (.bool true)) (by kernel_rfl)) ?_
        refine zae ?_
        refine zaf ?_
        refine dwp_if_t rfl (rfl) ?_
        refine zak ?_
        refine zaf ?_
        refine zat ?_
        refine zaf ?_
        refine zaj 1 (by simp only [holes, List.cons_append, List.nil_append]; exact rfl) ?_
        refine zac ?_
        refine zab rfl rfl rfl (zad (.inl rfl) (ev1 rfl)) ?_
        refine zab rfl rfl rfl (op_ixwr (2) rfl av173 (ev1 rfl) (ev1 rfl) (fun _ => rfl) (fun _ => by decide) (Nat.le_of_ble_eq_true rfl)) ?_
        refine zam rfl rfl rfl (zaq 4 rfl zr172 rfl) (by simp only [upd, za, zaa]; exact rfl) ?_
        refine zab rfl rfl rfl (zad (.inr rfl) (ev1 rfl)) ?_
        refine zax rfl rfl (op_stam rfl tb172 (ev1 rfl) (ev1 rfl) rfl rfl rfl rfl) (by simp only [upd, za, zaa]; exact rfl) ?_
        refine zae ?_
        refine zaf ?_
        refine zac ?_
        refine zab rfl rfl rfl (zap rfl fo164_0 (ev1 rfl)) ?_
        refine zab rfl rfl rfl (zav rfl tb3 (ev1 rfl) rfl rfl) ?_
        refine zab rfl rfl rfl (zad (.inl rfl) (ev1 rfl)) ?_
        refine zab rfl rfl rfl ((op_shr (2) rfl (ev1 rfl) (ev1 rfl) (fun _ => ⟨rfl, by decide⟩)).cast (d' := .val (.int .i64 15)) (by kernel_rfl)) ?_
        refine zab rfl rfl rfl ((op_iand rfl (ev1 rfl) (ev1 rfl)).cast (d' := .val (.int .i64 1)) (by kernel_rfl)) ?_
        refine zab rfl rfl rfl ((zb rfl (ev1 rfl) (ev1 rfl)).cast (d' := .val (.bool true)) (by kernel_rfl)) ?_
        refine zab rfl rfl rfl (zad (.inl rfl) (ev1 rfl)) ?_
        refine zai (zar (b := true) rfl rfl rfl) rfl rfl rfl (zap rfl fo172_1 (ev1 rfl)) (by simp only [upd, za, zaa]; exact rfl) ?_
        refine zai (zar (b := true) rfl rfl rfl) rfl rfl rfl (zav rfl tb168 (ev2 rfl) rfl rfl) (by simp only [upd, za, zaa]; exact rfl) ?_
        refine zai (zar (b := true) rfl rfl rfl) rfl rfl rfl (op_ldmw rfl tb164 (ev1 rfl) rfl rfl) (by simp only [upd, za, zaa]; exact rfl) ?_
        refine zai (zar (b := true) rfl rfl rfl) rfl rfl rfl (zah [] [0] [] rfl (ev2 rfl) (ec (ev2 rfl) (ec (ev1 rfl) en)) rfl rfl (fit2_d _ _ _ _ _) rfl rfl rfl rfl rfl rfl) (by simp only [upd, za, zaa]; exact rfl) ?_
        refine zai (zar (b := true) rfl rfl rfl) rfl rfl rfl (op_not rfl (ev2 rfl)) (by simp only [upd, za, zaa]; exact rfl) ?_
        refine zab rfl rfl rfl (zaz rfl (ev1 rfl) (ev3 rfl (fun _ => rfl))) ?_
        refine zab rfl rfl rfl (zad (.inl rfl) (ev1 rfl)) ?_
        refine zag (zan rfl rfl rfl) rfl rfl rfl (zap rfl fo164_0 (ev1 rfl)) ?_
        refine zag (zan rfl rfl rfl) rfl rfl rfl (zav rfl tb3 (ev2 rfl) rfl rfl) ?_
        refine zag (zan rfl rfl rfl) rfl rfl rfl (zad (.inl rfl) (ev1 rfl)) ?_
        refine zag (zan rfl rfl rfl) rfl rfl rfl ((op_shr (2) rfl (ev2 rfl) (ev2 rfl) (fun _ => ⟨rfl, by decide⟩)).cast (d' := .val (.int .i64 15)) (by kernel_rfl)) ?_
        refine zag (zan rfl rfl rfl) rfl rfl rfl ((op_iand rfl (ev2 rfl) (ev1 rfl)).cast (d' := .val (.int .i64 1)) (by kernel_rfl)) ?_
        refine zag (zan rfl rfl rfl) rfl rfl rfl ((zb rfl (ev2 rfl) (ev1 rfl)).cast (d' := .val (.bool false)) (by kernel_rfl)) ?_
        refine zag (zan rfl rfl rfl) rfl rfl rfl (zad (.inl rfl) (ev2 rfl)) ?_
        refine zag (zay rfl rfl rfl) rfl rfl rfl (zap rfl fo172_2 (ev1 rfl)) ?_
        refine zag (zay rfl rfl rfl) rfl rfl rfl (zav rfl tb169 (ev2 rfl) rfl rfl) ?_
        refine zag (zay rfl rfl rfl) rfl rfl rfl (zah [] [0] [] rfl (ev2 rfl) (ec (ev1 rfl) en) rfl rfl (blk2_d _) rfl rfl rfl rfl rfl rfl) ?_
        refine zag (zay rfl rfl rfl) rfl rfl rfl (op_not rfl (ev2 rfl)) ?_
        refine zag (zan rfl rfl rfl) rfl rfl rfl ((zaz rfl (ev2 rfl) (ev2 rfl)).cast (d' := .val (.bool false)) (by rfl)) ?_
        refine zab rfl rfl rfl (op_or rfl (ev1 rfl) (ev3 rfl id)) ?_
        refine zae ?_
        refine zaw rfl (fun c7 => ?_) (fun c7 => ?_)
        · refine zaf ?_
          refine zac ?_
          refine zab rfl rfl rfl (zad (.inr rfl) (ev1 rfl)) ?_
          refine zae ?_
          refine zau ?_
          refine kend0 (rs1 rfl (rv_t rfl)) rfl ?_
          have hb : opB o = false := by
            unfold opB
            simp_all [mostK, errz, eqI_dec, errOr_z]
            all_goals (first | (intros; omega) | (intros; simp_all; done))
          rw [hb]
          rfl
        · refine zak ?_
          refine zac ?_
          refine zab rfl rfl rfl ((op_add' rfl (ev1 rfl) (ev1 rfl) (fun _ => IntWalk.i64_in _ (by omega))).cast (d' := .val (.int .i64 3)) (by kernel_rfl)) ?_
          refine zab rfl rfl rfl (zad (.inl rfl) (ev1 rfl)) ?_
          refine zae ?_
          refine dloop_step ?_
          refine zaf ?_
          refine zac ?_
          refine zab rfl rfl rfl ((op_lss rfl (ev1 rfl) (ev1 rfl)).cast (d' := .val (.bool true)) (by kernel_rfl)) ?_
          refine zae ?_
          refine zaf ?_
          refine dwp_if_t rfl (rfl) ?_
          refine zak ?_
          refine zaf ?_
          refine zat ?_
          refine zaf ?_
          refine zaj 1 (by simp only [holes, List.cons_append, List.nil_append]; exact rfl) ?_
          refine zac ?_
          refine zab rfl rfl rfl (zad (.inl rfl) (ev1 rfl)) ?_
          refine zab rfl rfl rfl (op_ixwr (3) rfl av173 (ev1 rfl) (ev1 rfl) (fun _ => rfl) (fun _ => by decide) (Nat.le_of_ble_eq_true rfl)) ?_
          refine zam rfl rfl rfl (zaq 5 rfl zr172 rfl) (by simp only [upd, za, zaa]; exact rfl) ?_
          refine zab rfl rfl rfl (zad (.inr rfl) (ev1 rfl)) ?_
          refine zax rfl rfl (op_stam rfl tb172 (ev1 rfl) (ev1 rfl) rfl rfl rfl rfl) (by simp only [upd, za, zaa]; exact rfl) ?_
          refine zae ?_
          refine zaf ?_
          refine zac ?_
          refine zab rfl rfl rfl (zap rfl fo164_0 (ev1 rfl)) ?_
          refine zab rfl rfl rfl (zav rfl tb3 (ev1 rfl) rfl rfl) ?_
          refine zab rfl rfl rfl (zad (.inl rfl) (ev1 rfl)) ?_
          refine zab rfl rfl rfl ((op_shr (3) rfl (ev1 rfl) (ev1 rfl) (fun _ => ⟨rfl, by decide⟩)).cast (d' := .val (.int .i64 7)) (by kernel_rfl)) ?_
          refine zab rfl rfl rfl ((op_iand rfl (ev1 rfl) (ev1 rfl)).cast (d' := .val (.int .i64 1)) (by kernel_rfl)) ?_
          refine zab rfl rfl rfl ((zb rfl (ev1 rfl) (ev1 rfl)).cast (d' := .val (.bool true)) (by kernel_rfl)) ?_
          refine zab rfl rfl rfl (zad (.inl rfl) (ev1 rfl)) ?_
          refine zai (zar (b := true) rfl rfl rfl) rfl rfl rfl (zap rfl fo172_1 (ev1 rfl)) (by simp only [upd, za, zaa]; exact rfl) ?_
          refine zai (zar (b := true) rfl rfl rfl) rfl rfl rfl (zav rfl tb168 (ev2 rfl) rfl rfl) (by simp only [upd, za, zaa]; exact rfl) ?_
          refine zai (zar (b := true) rfl rfl rfl) rfl rfl rfl (op_ldmw rfl tb164 (ev1 rfl) rfl rfl) (by simp only [upd, za, zaa]; exact rfl) ?_
          refine zai (zar (b := true) rfl rfl rfl) rfl rfl rfl (zah [] [0] [] rfl (ev2 rfl) (ec (ev2 rfl) (ec (ev1 rfl) en)) rfl rfl (fit3_d _ _ _ _ _) rfl rfl rfl rfl rfl rfl) (by simp only [upd, za, zaa]; exact rfl) ?_
          refine zai (zar (b := true) rfl rfl rfl) rfl rfl rfl (op_not rfl (ev2 rfl)) (by simp only [upd, za, zaa]; exact rfl) ?_
          refine zab rfl rfl rfl (zaz rfl (ev1 rfl) (ev3 rfl (fun _ => rfl))) ?_
          refine zab rfl rfl rfl (zad (.inl rfl) (ev1 rfl)) ?_
          refine zag (zan rfl rfl rfl) rfl rfl rfl (zap rfl fo164_0 (ev1 rfl)) ?_
          refine zag (zan rfl rfl rfl) rfl rfl rfl (zav rfl tb3 (ev2 rfl) rfl rfl) ?_
          refine zag (zan rfl rfl rfl) rfl rfl rfl (zad (.inl rfl) (ev1 rfl)) ?_
          refine zag (zan rfl rfl rfl) rfl rfl rfl ((op_shr (3) rfl (ev2 rfl) (ev2 rfl) (fun _ => ⟨rfl, by decide⟩)).cast (d' := .val (.int .i64 7)) (by kernel_rfl)) ?_
          refine zag (zan rfl rfl rfl) rfl rfl rfl ((op_iand rfl (ev2 rfl) (ev1 rfl)).cast (d' := .val (.int .i64 1)) (by kernel_rfl)) ?_
          refine zag (zan rfl rfl rfl) rfl rfl rfl ((zb rfl (ev2 rfl) (ev1 rfl)).cast (d' := .val (.bool false)) (by kernel_rfl)) ?_
          refine zag (zan rfl rfl rfl) rfl rfl rfl (zad (.inl rfl) (ev2 rfl)) ?_
          refine zag (zay rfl rfl rfl) rfl rfl rfl (zap rfl fo172_2 (ev1 rfl)) ?_
          refine zag (zay rfl rfl rfl) rfl rfl rfl (zav rfl tb169 (ev2 rfl) rfl rfl) ?_
          refine zag (zay rfl rfl rfl) rfl rfl rfl (zah [] [0] [] rfl (ev2 rfl) (ec (ev1 rfl) en) rfl rfl (blk3_d _) rfl rfl rfl rfl rfl rfl) ?_
          refine zag (zay rfl rfl rfl) rfl rfl rfl (op_not rfl (ev2 rfl)) ?_
          refine zag (zan rfl rfl rfl) rfl rfl rfl ((zaz rfl (ev2 rfl) (ev2 rfl)).cast (d' := .val (.bool false)) (by rfl)) ?_
          refine zab rfl rfl rfl (op_or rfl (ev1 rfl) (ev3 rfl id)) ?_
          refine zae ?_
          refine zaw rfl (fun c9 => ?_) (fun c9 => ?_)
          · refine zaf ?_
            refine zac ?_
            refine zab rfl rfl rfl (zad (.inr rfl) (ev1 rfl)) ?_
            refine zae ?_
            refine zau ?_
            refine kend0 (rs1 rfl (rv_t rfl)) rfl ?_
            have hb : opB o = false := by
              unfold opB
              simp_all [mostK, errz, eqI_dec, errOr_z]
              all_goals (first | (intros; omega) | (intros; simp_all; done))
            rw [hb]
            rfl
          · refine zak ?_
            refine zac ?_
            refine zab rfl rfl rfl ((op_add' rfl (ev1 rfl) (ev1 rfl) (fun _ => IntWalk.i64_in _ (by omega))).cast (d' := .val (.int .i64 4)) (by kernel_rfl)) ?_
            refine zab rfl rfl rfl (zad (.inl rfl) (ev1 rfl)) ?_
            refine zae ?_
            refine dloop_step ?_
            refine zaf ?_
            refine zac ?_
            refine zab rfl rfl rfl ((op_lss rfl (ev1 rfl) (ev1 rfl)).cast (d' := .val (.bool true)) (by kernel_rfl)) ?_
            refine zae ?_
            refine zaf ?_
            refine dwp_if_t rfl (rfl) ?_
            refine zak ?_
            refine zaf ?_
            refine zat ?_
            refine zaf ?_
            refine zaj 1 (by simp only [holes, List.cons_append, List.nil_append]; exact rfl) ?_
            refine zac ?_
            refine zab rfl rfl rfl (zad (.inl rfl) (ev1 rfl)) ?_
            refine zab rfl rfl rfl (op_ixwr (4) rfl av173 (ev1 rfl) (ev1 rfl) (fun _ => rfl) (fun _ => by decide) (Nat.le_of_ble_eq_true rfl)) ?_
            refine zam rfl rfl rfl (zaq 6 rfl zr172 rfl) (by simp only [upd, za, zaa]; exact rfl) ?_
            refine zab rfl rfl rfl (zad (.inr rfl) (ev1 rfl)) ?_
            refine zax rfl rfl (op_stam rfl tb172 (ev1 rfl) (ev1 rfl) rfl rfl rfl rfl) (by simp only [upd, za, zaa]; exact rfl) ?_
            refine zae ?_
            refine zaf ?_
            refine zac ?_
            refine zab rfl rfl rfl (zap rfl fo164_0 (ev1 rfl)) ?_
            refine zab rfl rfl rfl (zav rfl tb3 (ev1 rfl) rfl rfl) ?_
            refine zab rfl rfl rfl (zad (.inl rfl) (ev1 rfl)) ?_
            refine zab rfl rfl rfl ((op_shr (4) rfl (ev1 rfl) (ev1 rfl) (fun _ => ⟨rfl, by decide⟩)).cast (d' := .val (.int .i64 3)) (by kernel_rfl)) ?_
            refine zab rfl rfl rfl ((op_iand rfl (ev1 rfl) (ev1 rfl)).cast (d' := .val (.int .i64 1)) (by kernel_rfl)) ?_
            refine zab rfl rfl rfl ((zb rfl (ev1 rfl) (ev1 rfl)).cast (d' := .val (.bool true)) (by kernel_rfl)) ?_
            refine zab rfl rfl rfl (zad (.inl rfl) (ev1 rfl)) ?_
            refine zai (zar (b := true) rfl rfl rfl) rfl rfl rfl (zap rfl fo172_1 (ev1 rfl)) (by simp only [upd, za, zaa]; exact rfl) ?_
            refine zai (zar (b := true) rfl rfl rfl) rfl rfl rfl (zav rfl tb168 (ev2 rfl) rfl rfl) (by simp only [upd, za, zaa]; exact rfl) ?_
            refine zai (zar (b := true) rfl rfl rfl) rfl rfl rfl (op_ldmw rfl tb164 (ev1 rfl) rfl rfl) (by simp only [upd, za, zaa]; exact rfl) ?_
            refine zai (zar (b := true) rfl rfl rfl) rfl rfl rfl (zah [] [0] [] rfl (ev2 rfl) (ec (ev2 rfl) (ec (ev1 rfl) en)) rfl rfl (fit4_d _ _ _ _ _) rfl rfl rfl rfl rfl rfl) (by simp only [upd, za, zaa]; exact rfl) ?_
            refine zai (zar (b := true) rfl rfl rfl) rfl rfl rfl (op_not rfl (ev2 rfl)) (by simp only [upd, za, zaa]; exact rfl) ?_
            refine zab rfl rfl rfl (zaz rfl (ev1 rfl) (ev3 rfl (fun _ => rfl))) ?_
            refine zab rfl rfl rfl (zad (.inl rfl) (ev1 rfl)) ?_
            refine zag (zan rfl rfl rfl) rfl rfl rfl (zap rfl fo164_0 (ev1 rfl)) ?_
            refine zag (zan rfl rfl rfl) rfl rfl rfl (zav rfl tb3 (ev2 rfl) rfl rfl) ?_
            refine zag (zan rfl rfl rfl) rfl rfl rfl (zad (.inl rfl) (ev1 rfl)) ?_
            refine zag (zan rfl rfl rfl) rfl rfl rfl ((op_shr (4) rfl (ev2 rfl) (ev2 rfl) (fun _ => ⟨rfl, by decide⟩)).cast (d' := .val (.int .i64 3)) (by kernel_rfl)) ?_
            refine zag (zan rfl rfl rfl) rfl rfl rfl ((op_iand rfl (ev2 rfl) (ev1 rfl)).cast (d' := .val (.int .i64 1)) (by kernel_rfl)) ?_
            refine zag (zan rfl rfl rfl) rfl rfl rfl ((zb rfl (ev2 rfl) (ev1 rfl)).cast (d' := .val (.bool false)) (by kernel_rfl)) ?_
            refine zag (zan rfl rfl rfl) rfl rfl rfl (zad (.inl rfl) (ev2 rfl)) ?_
            refine zag (zay rfl rfl rfl) rfl rfl rfl (zap rfl fo172_2 (ev1 rfl)) ?_
            refine zag (zay rfl rfl rfl) rfl rfl rfl (zav rfl tb169 (ev2 rfl) rfl rfl) ?_
            refine zag (zay rfl rfl rfl) rfl rfl rfl (zah [] [0] [] rfl (ev2 rfl) (ec (ev1 rfl) en) rfl rfl (blk4_d _) rfl rfl rfl rfl rfl rfl) ?_
            refine zag (zay rfl rfl rfl) rfl rfl rfl (op_not rfl (ev2 rfl)) ?_
            refine zag (zan rfl rfl rfl) rfl rfl rfl ((zaz rfl (ev2 rfl) (ev2 rfl)).cast (d' := .val (.bool false)) (by rfl)) ?_
            refine zab rfl rfl rfl (op_or rfl (ev1 rfl) (ev3 rfl id)) ?_
            refine zae ?_
            refine zaw rfl (fun c11 => ?_) (fun c11 => ?_)
            · refine zaf ?_
              refine zac ?_
              refine zab rfl rfl rfl (zad (.inr rfl) (ev1 rfl)) ?_
              refine zae ?_
              refine zau ?_
              refine kend0 (rs1 rfl (rv_t rfl)) rfl ?_
              have hb : opB o = false := by
                unfold opB
                simp_all [mostK, errz, eqI_dec, errOr_z]
                all_goals (first | (intros; omega) | (intros; simp_all; done))
              rw [hb]
              rfl
            · refine zak ?_
              refine zac ?_
              refine zab rfl rfl rfl ((op_add' rfl (ev1 rfl) (ev1 rfl) (fun _ => IntWalk.i64_in _ (by omega))).cast (d' := .val (.int .i64 5)) (by kernel_rfl)) ?_
              refine zab rfl rfl rfl (zad (.inl rfl) (ev1 rfl)) ?_
              refine zae ?_
              refine dloop_step ?_
              refine zaf ?_
              refine zac ?_
              refine zab rfl rfl rfl ((op_lss rfl (ev1 rfl) (ev1 rfl)).cast (d' := .val (.bool true)) (by kernel_rfl)) ?_
              refine zae ?_
              refine zaf ?_
              refine dwp_if_t rfl (rfl) ?_
              refine zak ?_
              refine zaf ?_
              refine zat ?_
              refine zaf ?_
              refine zaj 1 (by simp only [holes, List.cons_append, List.nil_append]; exact rfl) ?_
              refine zac ?_
              refine zab rfl rfl rfl (zad (.inl rfl) (ev1 rfl)) ?_
              refine zab rfl rfl rfl (op_ixwr (5) rfl av173 (ev1 rfl) (ev1 rfl) (fun _ => rfl) (fun _ => by decide) (Nat.le_of_ble_eq_true rfl)) ?_
              refine zam rfl rfl rfl (zaq 7 rfl zr172 rfl) (by simp only [upd, za, zaa]; exact rfl) ?_
              refine zab rfl rfl rfl (zad (.inr rfl) (ev1 rfl)) ?_
              refine zax rfl rfl (op_stam rfl tb172 (ev1 rfl) (ev1 rfl) rfl rfl rfl rfl) (by simp only [upd, za, zaa]; exact rfl) ?_
              refine zae ?_
              refine zaf ?_
              refine zac ?_
              refine zab rfl rfl rfl (zap rfl fo164_0 (ev1 rfl)) ?_
              refine zab rfl rfl rfl (zav rfl tb3 (ev1 rfl) rfl rfl) ?_
              refine zab rfl rfl rfl (zad (.inl rfl) (ev1 rfl)) ?_
              refine zab rfl rfl rfl ((op_shr (5) rfl (ev1 rfl) (ev1 rfl) (fun _ => ⟨rfl, by decide⟩)).cast (d' := .val (.int .i64 1)) (by kernel_rfl)) ?_
              refine zab rfl rfl rfl ((op_iand rfl (ev1 rfl) (ev1 rfl)).cast (d' := .val (.int .i64 1)) (by kernel_rfl)) ?_
              refine zab rfl rfl rfl ((zb rfl (ev1 rfl) (ev1 rfl)).cast (d' := .val (.bool true)) (by kernel_rfl)) ?_
              refine zab rfl rfl rfl (zad (.inl rfl) (ev1 rfl)) ?_
              refine zai (zar (b := true) rfl rfl rfl) rfl rfl rfl (zap rfl fo172_1 (ev1 rfl)) (by simp only [upd, za, zaa]; exact rfl) ?_
              refine zai (zar (b := true) rfl rfl rfl) rfl rfl rfl (zav rfl tb168 (ev2 rfl) rfl rfl) (by simp only [upd, za, zaa]; exact rfl) ?_
              refine zai (zar (b := true) rfl rfl rfl) rfl rfl rfl (op_ldmw rfl tb164 (ev1 rfl) rfl rfl) (by simp only [upd, za, zaa]; exact rfl) ?_
              refine zai (zar (b := true) rfl rfl rfl) rfl rfl rfl (zah [] [0] [] rfl (ev2 rfl) (ec (ev2 rfl) (ec (ev1 rfl) en)) rfl rfl (fit5_d _ _ _ _ _) rfl rfl rfl rfl rfl rfl) (by simp only [upd, za, zaa]; exact rfl) ?_
              refine zai (zar (b := true) rfl rfl rfl) rfl rfl rfl (op_not rfl (ev2 rfl)) (by simp only [upd, za, zaa]; exact rfl) ?_
              refine zab rfl rfl rfl (zaz rfl (ev1 rfl) (ev3 rfl (fun _ => rfl))) ?_
              refine zab rfl rfl rfl (zad (.inl rfl) (ev1 rfl)) ?_
              refine zag (zan rfl rfl rfl) rfl rfl rfl (zap rfl fo164_0 (ev1 rfl)) ?_
              refine zag (zan rfl rfl rfl) rfl rfl rfl (zav rfl tb3 (ev2 rfl) rfl rfl) ?_
              refine zag (zan rfl rfl rfl) rfl rfl rfl (zad (.inl rfl) (ev1 rfl)) ?_
              refine zag (zan rfl rfl rfl) rfl rfl rfl ((op_shr (5) rfl (ev2 rfl) (ev2 rfl) (fun _ => ⟨rfl, by decide⟩)).cast (d' := .val (.int .i64 1)) (by kernel_rfl)) ?_
              refine zag (zan rfl rfl rfl) rfl rfl rfl ((op_iand rfl (ev2 rfl) (ev1 rfl)).cast (d' := .val (.int .i64 1)) (by kernel_rfl)) ?_
              refine zag (zan rfl rfl rfl) rfl rfl rfl ((zb rfl (ev2 rfl) (ev1 rfl)).cast (d' := .val (.bool false)) (by kernel_rfl)) ?_
              refine zag (zan rfl rfl rfl) rfl rfl rfl (zad (.inl rfl) (ev2 rfl)) ?_
              refine zag (zay rfl rfl rfl) rfl rfl rfl (zap rfl fo172_2 (ev1 rfl)) ?_
              refine zag (zay rfl rfl rfl) rfl rfl rfl (zav rfl tb169 (ev2 rfl) rfl rfl) ?_
              refine zag (zay rfl rfl rfl) rfl rfl rfl (zah [] [0] [] rfl (ev2 rfl) (ec (ev1 rfl) en) rfl rfl (blk5_d _) rfl rfl rfl rfl rfl rfl) ?_
              refine zag (zay rfl rfl rfl) rfl rfl rfl (op_not rfl (ev2 rfl)) ?_
              refine zag (zan rfl rfl rfl) rfl rfl rfl ((zaz rfl (ev2 rfl) (ev2 rfl)).cast (d' := .val (.bool false)) (by rfl)) ?_
              refine zab rfl rfl rfl (op_or rfl (ev1 rfl) (ev3 rfl id)) ?_
              refine zae ?_
              refine zaw rfl (fun c13 => ?_) (fun c13 => ?_)
              · refine zaf ?_
                refine zac ?_
                refine zab rfl rfl rfl (zad (.inr rfl) (ev1 rfl)) ?_
                refine zae ?_
                refine zau ?_
                refine kend0 (rs1 rfl (rv_t rfl)) rfl ?_
                have hb : opB o = false := by
                  unfold opB
                  simp_all [mostK, errz, eqI_dec, errOr_z]
                  all_goals (first | (intros; omega) | (intros; simp_all; done))
                rw [hb]
                rfl
              · refine zak ?_
                refine zac ?_
                refine zab rfl rfl rfl ((op_add' rfl (ev1 rfl) (ev1 rfl) (fun _ => IntWalk.i64_in _ (by omega))).cast (d' := .val (.int .i64 6)) (by kernel_rfl)) ?_
                refine zab rfl rfl rfl (zad (.inl rfl) (ev1 rfl)) ?_
                refine zae ?_
                refine dloop_step ?_
                refine zaf ?_
                refine zac ?_
                refine zab rfl rfl rfl ((op_lss rfl (ev1 rfl) (ev1 rfl)).cast (d' := .val (.bool true)) (by kernel_rfl)) ?_
                refine zae ?_
                refine zaf ?_
                refine dwp_if_t rfl (rfl) ?_
                refine zak ?_
                refine zaf ?_
                refine zat ?_
                refine zaf ?_
                refine zaj 1 (by simp only [holes, List.cons_append, List.nil_append]; exact rfl) ?_
                refine zac ?_
                refine zab rfl rfl rfl (zad (.inl rfl) (ev1 rfl)) ?_
                refine zab rfl rfl rfl (op_ixwr (6) rfl av173 (ev1 rfl) (ev1 rfl) (fun _ => rfl) (fun _ => by decide) (Nat.le_of_ble_eq_true rfl)) ?_
                refine zam rfl rfl rfl (zaq 8 rfl zr172 rfl) (by simp only [upd, za, zaa]; exact rfl) ?_
                refine zab rfl rfl rfl (zad (.inr rfl) (ev1 rfl)) ?_
                refine zax rfl rfl (op_stam rfl tb172 (ev1 rfl) (ev1 rfl) rfl rfl rfl rfl) (by simp only [upd, za, zaa]; exact rfl) ?_
                refine zae ?_
                refine zaf ?_
                refine zac ?_
                refine zab rfl rfl rfl (zap rfl fo164_0 (ev1 rfl)) ?_
                refine zab rfl rfl rfl (zav rfl tb3 (ev1 rfl) rfl rfl) ?_
                refine zab rfl rfl rfl (zad (.inl rfl) (ev1 rfl)) ?_
                refine zab rfl rfl rfl ((op_shr (6) rfl (ev1 rfl) (ev1 rfl) (fun _ => ⟨rfl, by decide⟩)).cast (d' := .val (.int .i64 0)) (by kernel_rfl)) ?_
                refine zab rfl rfl rfl ((op_iand rfl (ev1 rfl) (ev1 rfl)).cast (d' := .val (.int .i64 0)) (by kernel_rfl)) ?_
                refine zab rfl rfl rfl ((zb rfl (ev1 rfl) (ev1 rfl)).cast (d' := .val (.bool false)) (by kernel_rfl)) ?_
                refine zab rfl rfl rfl (zad (.inl rfl) (ev1 rfl)) ?_
                refine zag (zar (b := false) rfl rfl rfl) rfl rfl rfl (zal (d := .junk)) ?_
                refine zag (zar (b := false) rfl rfl rfl) rfl rfl rfl (zal (d := .junk)) ?_
                refine zag (zar (b := false) rfl rfl rfl) rfl rfl rfl (zal (d := .junk)) ?_
                refine zag (zar (b := false) rfl rfl rfl) rfl rfl rfl (zal (d := .val (.bool false))) ?_
                refine zag (zar (b := false) rfl rfl rfl) rfl rfl rfl (zal (d := .val (.bool false))) ?_
                refine zab rfl rfl rfl ((zaz rfl (ev1 rfl) (ev3 rfl id)).cast (d' := .val (.bool false)) (by rfl)) ?_
                refine zab rfl rfl rfl (zad (.inl rfl) (ev1 rfl)) ?_
                refine zai (zan (b := false) rfl rfl rfl) rfl rfl rfl (zap rfl fo164_0 (ev1 rfl)) (by simp only [upd, za, zaa]; exact rfl) ?_
                refine zai (zan (b := false) rfl rfl rfl) rfl rfl rfl (zav rfl tb3 (ev2 rfl) rfl rfl) (by simp only [upd, za, zaa]; exact rfl) ?_
                refine zai (zan (b := false) rfl rfl rfl) rfl rfl rfl (zad (.inl rfl) (ev1 rfl)) (by simp only [upd, za, zaa]; exact rfl) ?_
                refine zai (zan (b := false) rfl rfl rfl) rfl rfl rfl ((op_shr (6) rfl (ev2 rfl) (ev2 rfl) (fun _ => ⟨rfl, by decide⟩)).cast (d' := .val (.int .i64 0)) (by kernel_rfl)) (by simp only [upd, za, zaa]; exact rfl) ?_
                refine zai (zan (b := false) rfl rfl rfl) rfl rfl rfl ((op_iand rfl (ev2 rfl) (ev1 rfl)).cast (d' := .val (.int .i64 0)) (by kernel_rfl)) (by simp only [upd, za, zaa]; exact rfl) ?_
                refine zai (zan (b := false) rfl rfl rfl) rfl rfl rfl ((zb rfl (ev2 rfl) (ev1 rfl)).cast (d' := .val (.bool true)) (by kernel_rfl)) (by simp only [upd, za, zaa]; exact rfl) ?_
                refine zai (zan (b := false) rfl rfl rfl) rfl rfl rfl (zad (.inl rfl) (ev2 rfl)) (by simp only [upd, za, zaa]; exact rfl) ?_
                refine zai (zay (g := true) (b := true) rfl rfl rfl) rfl rfl rfl (zap rfl fo172_2 (ev1 rfl)) (by simp only [upd, za, zaa]; exact rfl) ?_
                refine zai (zay (g := true) (b := true) rfl rfl rfl) rfl rfl rfl (zav rfl tb169 (ev2 rfl) rfl rfl) (by simp only [upd, za, zaa]; exact rfl) ?_
                refine zai (zay (g := true) (b := true) rfl rfl rfl) rfl rfl rfl (zah [] [0] [] rfl (ev2 rfl) (ec (ev1 rfl) en) rfl rfl (blk6_d _) rfl rfl rfl rfl rfl rfl) (by simp only [upd, za, zaa]; exact rfl) ?_
                refine zai (zay (g := true) (b := true) rfl rfl rfl) rfl rfl rfl (op_not rfl (ev2 rfl)) (by simp only [upd, za, zaa]; exact rfl) ?_
                refine zai (zan (b := false) rfl rfl rfl) rfl rfl rfl (zaz rfl (ev2 rfl) (ev3 rfl (fun _ => rfl))) (by simp only [upd, za, zaa]; exact rfl) ?_
                refine zab rfl rfl rfl (op_or rfl (ev1 rfl) (ev3 rfl (fun _ => rfl))) ?_
                refine zae ?_
                refine zaw rfl (fun c15 => ?_) (fun c15 => ?_)
                · refine zaf ?_
                  refine zac ?_
                  refine zab rfl rfl rfl (zad (.inr rfl) (ev1 rfl)) ?_
                  refine zae ?_
                  refine zau ?_
                  refine kend0 (rs1 rfl (rv_t rfl)) rfl ?_
                  have hb : opB o = false := by
                    unfold opB
                    simp_all [mostK, errz, eqI_dec, errOr_z]
                    all_goals (first | (intros; omega) | (intros; simp_all; done))
                  rw [hb]
                  rfl
                · refine zak ?_
                  refine zac ?_
                  refine zab rfl rfl rfl ((op_add' rfl (ev1 rfl) (ev1 rfl) (fun _ => IntWalk.i64_in _ (by omega))).cast (d' := .val (.int .i64 7)) (by kernel_rfl)) ?_
                  refine zab rfl rfl rfl (zad (.inl rfl) (ev1 rfl)) ?_
                  refine zae ?_
                  refine dloop_step ?_
                  refine zaf ?_
                  refine zac ?_
                  refine zab rfl rfl rfl ((op_lss rfl (ev1 rfl) (ev1 rfl)).cast (d' := .val (.bool true)) (by kernel_rfl)) ?_
                  refine zae ?_
                  refine zaf ?_
                  refine dwp_if_t rfl (rfl) ?_
                  refine zak ?_
                  refine zaf ?_
                  refine zat ?_
                  refine zaf ?_
                  refine zaj 1 (by simp only [holes, List.cons_append, List.nil_append]; exact rfl) ?_
                  refine zac ?_
                  refine zab rfl rfl rfl (zad (.inl rfl) (ev1 rfl)) ?_
                  refine zab rfl rfl rfl (op_ixwr (7) rfl av173 (ev1 rfl) (ev1 rfl) (fun _ => rfl) (fun _ => by decide) (Nat.le_of_ble_eq_true rfl)) ?_
                  refine zam rfl rfl rfl (zaq 9 rfl zr172 rfl) (by simp only [upd, za, zaa]; exact rfl) ?_
                  refine zab rfl rfl rfl (zad (.inr rfl) (ev1 rfl)) ?_
                  refine zax rfl rfl (op_stam rfl tb172 (ev1 rfl) (ev1 rfl) rfl rfl rfl rfl) (by simp only [upd, za, zaa]; exact rfl) ?_
                  refine zae ?_
                  refine zaf ?_
                  refine zac ?_
                  refine zab rfl rfl rfl (zap rfl fo164_0 (ev1 rfl)) ?_
                  refine zab rfl rfl rfl (zav rfl tb3 (ev1 rfl) rfl rfl) ?_
                  refine zab rfl rfl rfl (zad (.inl rfl) (ev1 rfl)) ?_
                  refine zab rfl rfl rfl ((op_shr (7) rfl (ev1 rfl) (ev1 rfl) (fun _ => ⟨rfl, by decide⟩)).cast (d' := .val (.int .i64 0)) (by kernel_rfl)) ?_
                  refine zab rfl rfl rfl ((op_iand rfl (ev1 rfl) (ev1 rfl)).cast (d' := .val (.int .i64 0)) (by kernel_rfl)) ?_
                  refine zab rfl rfl rfl ((zb rfl (ev1 rfl) (ev1 rfl)).cast (d' := .val (.bool false)) (by kernel_rfl)) ?_
                  refine zab rfl rfl rfl (zad (.inl rfl) (ev1 rfl)) ?_
                  refine zag (zar (b := false) rfl rfl rfl) rfl rfl rfl (zal (d := .junk)) ?_
                  refine zag (zar (b := false) rfl rfl rfl) rfl rfl rfl (zal (d := .junk)) ?_
                  refine zag (zar (b := false) rfl rfl rfl) rfl rfl rfl (zal (d := .junk)) ?_
                  refine zag (zar (b := false) rfl rfl rfl) rfl rfl rfl (zal (d := .val (.bool false))) ?_
                  refine zag (zar (b := false) rfl rfl rfl) rfl rfl rfl (zal (d := .val (.bool false))) ?_
                  refine zab rfl rfl rfl ((zaz rfl (ev1 rfl) (ev3 rfl id)).cast (d' := .val (.bool false)) (by rfl)) ?_
                  refine zab rfl rfl rfl (zad (.inl rfl) (ev1 rfl)) ?_
                  refine zai (zan (b := false) rfl rfl rfl) rfl rfl rfl (zap rfl fo164_0 (ev1 rfl)) (by simp only [upd, za, zaa]; exact rfl) ?_
                  refine zai (zan (b := false) rfl rfl rfl) rfl rfl rfl (zav rfl tb3 (ev2 rfl) rfl rfl) (by simp only [upd, za, zaa]; exact rfl) ?_
                  refine zai (zan (b := false) rfl rfl rfl) rfl rfl rfl (zad (.inl rfl) (ev1 rfl)) (by simp only [upd, za, zaa]; exact rfl) ?_
                  refine zai (zan (b := false) rfl rfl rfl) rfl rfl rfl ((op_shr (7) rfl (ev2 rfl) (ev2 rfl) (fun _ => ⟨rfl, by decide⟩)).cast (d' := .val (.int .i64 0)) (by kernel_rfl)) (by simp only [upd, za, zaa]; exact rfl) ?_
                  refine zai (zan (b := false) rfl rfl rfl) rfl rfl rfl ((op_iand rfl (ev2 rfl) (ev1 rfl)).cast (d' := .val (.int .i64 0)) (by kernel_rfl)) (by simp only [upd, za, zaa]; exact rfl) ?_
                  refine zai (zan (b := false) rfl rfl rfl) rfl rfl rfl ((zb rfl (ev2 rfl) (ev1 rfl)).cast (d' := .val (.bool true)) (by kernel_rfl)) (by simp only [upd, za, zaa]; exact rfl) ?_
                  refine zai (zan (b := false) rfl rfl rfl) rfl rfl rfl (zad (.inl rfl) (ev2 rfl)) (by simp only [upd, za, zaa]; exact rfl) ?_
                  refine zai (zay (g := true) (b := true) rfl rfl rfl) rfl rfl rfl (zap rfl fo172_2 (ev1 rfl)) (by simp only [upd, za, zaa]; exact rfl) ?_
                  refine zai (zay (g := true) (b := true) rfl rfl rfl) rfl rfl rfl (zav rfl tb169 (ev2 rfl) rfl rfl) (by simp only [upd, za, zaa]; exact rfl) ?_
                  refine zai (zay (g := true) (b := true) rfl rfl rfl) rfl rfl rfl (zah [] [0] [] rfl (ev2 rfl) (ec (ev1 rfl) en) rfl rfl (blk7_d _) rfl rfl rfl rfl rfl rfl) (by simp only [upd, za, zaa]; exact rfl) ?_
                  refine zai (zay (g := true) (b := true) rfl rfl rfl) rfl rfl rfl (op_not rfl (ev2 rfl)) (by simp only [upd, za, zaa]; exact rfl) ?_
                  refine zai (zan (b := false) rfl rfl rfl) rfl rfl rfl (zaz rfl (ev2 rfl) (ev3 rfl (fun _ => rfl))) (by simp only [upd, za, zaa]; exact rfl) ?_
                  refine zab rfl rfl rfl (op_or rfl (ev1 rfl) (ev3 rfl (fun _ => rfl))) ?_
                  refine zae ?_
                  refine zaw rfl (fun c17 => ?_) (fun c17 => ?_)
                  · refine zaf ?_
                    refine zac ?_
                    refine zab rfl rfl rfl (zad (.inr rfl) (ev1 rfl)) ?_
                    refine zae ?_
                    refine zau ?_
                    refine kend0 (rs1 rfl (rv_t rfl)) rfl ?_
                    have hb : opB o = false := by
                      unfold opB
                      simp_all [mostK, errz, eqI_dec, errOr_z]
                      all_goals (first | (intros; omega) | (intros; simp_all; done))
                    rw [hb]
                    rfl
                  · refine zak ?_
                    refine zac ?_
                    refine zab rfl rfl rfl ((op_add' rfl (ev1 rfl) (ev1 rfl) (fun _ => IntWalk.i64_in _ (by omega))).cast (d' := .val (.int .i64 8)) (by kernel_rfl)) ?_
                    refine zab rfl rfl rfl (zad (.inl rfl) (ev1 rfl)) ?_
                    refine zae ?_
                    refine dloop_step ?_
                    refine zaf ?_
                    refine zac ?_
                    refine zab rfl rfl rfl ((op_lss rfl (ev1 rfl) (ev1 rfl)).cast (d' := .val (.bool false)) (by kernel_rfl)) ?_
                    refine zae ?_
                    refine zaf ?_
                    refine dwp_if_f rfl (rfl) ?_
                    refine dwp_exit ?_
                    refine zaf ?_
                    refine zac ?_
                    refine zab rfl rfl rfl (zad (.inr rfl) (ev1 rfl)) ?_
                    refine zae ?_
                    refine zau ?_
                    refine kend0 (rs1 rfl (rv_t rfl)) rfl ?_
                    have hb : opB o = true := by
                      unfold opB
                      simp_all [mostK, errz, eqI_dec, errOr_z]
                      all_goals (first | (intros; omega) | (intros; simp_all; done))
                    rw [hb]
                    rfl
set_option maxRecDepth 4000 in
set_option maxHeartbeats 1000000 in
theorem opc_3 (o : OpM) (hk : o.kd = 3) : DFun Tryz.prog 92 [.agg (opD o)] [] (.val (.int .i64 (errOr (opB o) 220))) [] := by
  refine zba (N := 54) 0 (by kernel_rfl) Tryz.func92 rfl rfl rfl (by simp only [fr0, Nat.zero_add, Nat.reduceAdd]; exact rfl) rfl fun s0 hs0 => ?_
  refine zaf ?_
  refine zaj 1 (by simp only [holes, List.cons_append, List.nil_append]; exact rfl) ?_
  refine zac ?_
  refine zam rfl rfl rfl (op_boxam 0 rfl (ev1 rfl) rfl) (by simp only [upd, za, zaa]; exact rfl) ?_
  refine zab rfl rfl rfl (zad (.inr rfl) (ev1 rfl)) ?_
  refine zae ?_
  refine zaf ?_
  refine zaj 1 (by simp only [holes, List.cons_append, List.nil_append]; exact rfl) ?_
  refine zac ?_
  refine zab rfl rfl rfl (zap rfl fo68_1 (ev1 rfl)) ?_
  refine zab rfl rfl rfl ((zav rfl tb3 (ev1 rfl) rfl rfl : DOp _ _ _ _ _ _ (.val (.int .i64 o.kd)) _).cast (d' := .val (.int .i64 3)) (by rw [hk])) ?_
  refine zab rfl rfl rfl (zah [] [] [] rfl (ev1 rfl) (ec (ev1 rfl) en) rfl rfl (kindOf_3) rfl rfl rfl rfl rfl rfl) ?_
  refine zab rfl rfl rfl (zad (.inl rfl) (ev1 rfl)) ?_
  refine zab rfl rfl rfl (op_ext rfl (ev1 rfl) rfl) ?_
  refine zab rfl rfl rfl (op_ext rfl (ev1 rfl) rfl) ?_
  refine zam rfl rfl rfl (zaq 1 rfl zr164 rfl) (by simp only [upd, za, zaa]; exact rfl) ?_
  refine zax rfl rfl (op_stam rfl tb164 (ev1 rfl) (ev1 rfl) rfl rfl rfl rfl) (by simp only [upd, za, zaa]; exact rfl) ?_
  refine zab rfl rfl rfl (zad (.inr rfl) (ev1 rfl)) ?_
  refine zae ?_
  refine zaf ?_
  refine zaf ?_
  refine zac ?_
  refine zab rfl rfl rfl (zad (.inl rfl) (ev1 rfl)) ?_
  refine zab rfl rfl rfl ((op_not rfl (ev1 rfl)).cast (d' := .val (.bool false)) (by kernel_rfl)) ?_
  refine zab rfl rfl rfl (zad (.inl rfl) (ev1 rfl)) ?_
  refine zai (zan (b := false) rfl rfl rfl) rfl rfl rfl (zap rfl fo68_0 (ev1 rfl)) (by simp only [upd, za, zaa]; exact rfl) ?_
  refine zai (zan (b := false) rfl rfl rfl) rfl rfl rfl (op_ldmv (R := [_, _, _]) rfl tb61 (ev2 rfl) rfl rfl rfl) (by simp only [upd, za, zaa]; exact rfl) ?_
  refine zai (zan (b := false) rfl rfl rfl) rfl rfl rfl (zah [] [] [] rfl (ev1 rfl) (ec (ev2 rfl) en) rfl rfl (idCheck_d _) rfl rfl rfl rfl rfl rfl) (by simp only [upd, za, zaa]; exact rfl) ?_
  refine zai (zan (b := false) rfl rfl rfl) rfl rfl rfl (op_neq rfl (ev2 rfl) (ev1 rfl)) (by simp only [upd, za, zaa]; exact rfl) ?_
  refine zab rfl rfl rfl (op_or rfl (ev1 rfl) (ev3 rfl (fun _ => rfl))) ?_
  refine zae ?_
  refine zaw rfl (fun c1 => ?_) (fun c1 => ?_)
  · refine zaf ?_
    refine zac ?_
    refine zab rfl rfl rfl (zad (.inr rfl) (ev1 rfl)) ?_
    refine zae ?_
    refine zau ?_
    refine kend0 (rs1 rfl (rv_t rfl)) rfl ?_
    have hb : opB o = false := by
      unfold opB
      simp_all [mostK, errz, eqI_dec, errOr_z]
      all_goals (first | (intros; omega) | (intros; simp_all; done))
    rw [hb]
    rfl
  · refine zak ?_
    refine zaf ?_
    refine zaf ?_
    refine zac ?_
    refine zab rfl rfl rfl (zah [] [] [] rfl (ev1 rfl) en rfl rfl (fields_d) rfl rfl rfl rfl rfl rfl) ?_
    refine zab rfl rfl rfl (zad (.inl rfl) (ev1 rfl)) ?_
    refine zae ?_
    refine zat ?_
    refine dwp_dloop (dloop_step ?_)
    refine zaf ?_
    refine zac ?_
    refine zab rfl rfl rfl ((op_lss rfl (ev1 rfl) (ev1 rfl)).cast (d' := .val (.bool true)) (by kernel_rfl)) ?_
    refine zae ?_
    refine zaf ?_
    refine dwp_if_t rfl (rfl) ?_
    refine zak ?_
    refine zaf ?_
    refine zat ?_
    refine zaf ?_
    refine zaj 1 (by simp only [holes, List.cons_append, List.nil_append]; exact rfl) ?_
    refine zac ?_
    refine zab rfl rfl rfl (zad (.inl rfl) (ev1 rfl)) ?_
    refine zab rfl rfl rfl (op_ixwr (0) rfl av173 (ev1 rfl) (ev1 rfl) (fun _ => rfl) (fun _ => by decide) (Nat.le_of_ble_eq_true rfl)) ?_
    refine zam rfl rfl rfl (zaq 2 rfl zr172 rfl) (by simp only [upd, za, zaa]; exact rfl) ?_
    refine zab rfl rfl rfl (zad (.inr rfl) (ev1 rfl)) ?_
    refine zax rfl rfl (op_stam rfl tb172 (ev1 rfl) (ev1 rfl) rfl rfl rfl rfl) (by simp only [upd, za, zaa]; exact rfl) ?_
    refine zae ?_
    refine zaf ?_
    refine zac ?_
    refine zab rfl rfl rfl (zap rfl fo164_0 (ev1 rfl)) ?_
    refine zab rfl rfl rfl (zav rfl tb3 (ev1 rfl) rfl rfl) ?_
    refine zab rfl rfl rfl (zad (.inl rfl) (ev1 rfl)) ?_
    refine zab rfl rfl rfl ((op_shr (0) rfl (ev1 rfl) (ev1 rfl) (fun _ => ⟨rfl, by decide⟩)).cast (d' := .val (.int .i64 47)) (by kernel_rfl)) ?_
    refine zab rfl rfl rfl ((op_iand rfl (ev1 rfl) (ev1 rfl)).cast (d' := .val (.int .i64 1)) (by kernel_rfl)) ?_
    refine zab rfl rfl rfl ((zb rfl (ev1 rfl) (ev1 rfl)).cast (d' := .val (.bool true)) (by kernel_rfl)) ?_
    refine zab rfl rfl rfl (zad (.inl rfl) (ev1 rfl)) ?_
    refine zai (zar (b := true) rfl rfl rfl) rfl rfl rfl (zap rfl fo172_1 (ev1 rfl)) (by simp only [upd, za, zaa]; exact rfl) ?_
    refine zai (zar (b := true) rfl rfl rfl) rfl rfl rfl (zav rfl tb168 (ev2 rfl) rfl rfl) (by simp only [upd, za, zaa]; exact rfl) ?_
    refine zai (zar (b := true) rfl rfl rfl) rfl rfl rfl (op_ldmw rfl tb164 (ev1 rfl) rfl rfl) (by simp only [upd, za, zaa]; exact rfl) ?_
    refine zai (zar (b := true) rfl rfl rfl) rfl rfl rfl (zah [] [0] [] rfl (ev2 rfl) (ec (ev2 rfl) (ec (ev1 rfl) en)) rfl rfl (fit0_d _ _ _ _ _) rfl rfl rfl rfl rfl rfl) (by simp only [upd, za, zaa]; exact rfl) ?_
    refine zai (zar (b := true) rfl rfl rfl) rfl rfl rfl (op_not rfl (ev2 rfl)) (by simp only [upd, za, zaa]; exact rfl) ?_
    refine zab rfl rfl rfl (zaz rfl (ev1 rfl) (ev3 rfl (fun _ => rfl))) ?_
    refine zab rfl rfl rfl (zad (.inl rfl) (ev1 rfl)) ?_
    refine zag (zan rfl rfl rfl) rfl rfl rfl (zap rfl fo164_0 (ev1 rfl)) ?_
    refine zag (zan rfl rfl rfl) rfl rfl rfl (zav rfl tb3 (ev2 rfl) rfl rfl) ?_
    refine zag (zan rfl rfl rfl) rfl rfl rfl (zad (.inl rfl) (ev1 rfl)) ?_
    refine zag (zan rfl rfl rfl) rfl rfl rfl ((op_shr (0) rfl (ev2 rfl) (ev2 rfl) (fun _ => ⟨rfl, by decide⟩)).cast (d' := .val (.int .i64 47)) (by kernel_rfl)) ?_
    refine zag (zan rfl rfl rfl) rfl rfl rfl ((op_iand rfl (ev2 rfl) (ev1 rfl)).cast (d' := .val (.int .i64 1)) (by kernel_rfl)) ?_
    refine zag (zan rfl rfl rfl) rfl rfl rfl ((zb rfl (ev2 rfl) (ev1 rfl)).cast (d' := .val (.bool false)) (by kernel_rfl)) ?_
    refine zag (zan rfl rfl rfl) rfl rfl rfl (zad (.inl rfl) (ev2 rfl)) ?_
    refine zag (zay rfl rfl rfl) rfl rfl rfl (zap rfl fo172_2 (ev1 rfl)) ?_
    refine zag (zay rfl rfl rfl) rfl rfl rfl (zav rfl tb169 (ev2 rfl) rfl rfl) ?_
    refine zag (zay rfl rfl rfl) rfl rfl rfl (zah [] [0] [] rfl (ev2 rfl) (ec (ev1 rfl) en) rfl rfl (blk0_d _) rfl rfl rfl rfl rfl rfl) ?_
    refine zag (zay rfl rfl rfl) rfl rfl rfl (op_not rfl (ev2 rfl)) ?_
    refine zag (zan rfl rfl rfl) rfl rfl rfl ((zaz rfl (ev2 rfl) (ev2 rfl)).cast (d' := .val (.bool false)) (by rfl)) ?_
    refine zab rfl rfl rfl (op_or rfl (ev1 rfl) (ev3 rfl id)) ?_
    refine zae ?_
    refine zaw rfl (fun c3 => ?_) (fun c3 => ?_)
    · refine zaf ?_
      refine zac ?_
      refine zab rfl rfl rfl (zad (.inr rfl) (ev1 rfl)) ?_
      refine zae ?_
      refine zau ?_
      refine kend0 (rs1 rfl (rv_t rfl)) rfl ?_
      have hb : opB o = false := by
        unfold opB
        simp_all [mostK, errz, eqI_dec, errOr_z]
        all_goals (first | (intros; omega) | (intros; simp_all; done))
      rw [hb]
      rfl
    · refine zak ?_
      refine zac ?_
      refine zab rfl rfl rfl ((op_add' rfl (ev1 rfl) (ev1 rfl) (fun _ => IntWalk.i64_in _ (by omega))).cast (d' := .val (.int .i64 1)) (by kernel_rfl)) ?_
      refine zab rfl rfl rfl (zad (.inl rfl) (ev1 rfl)) ?_
      refine zae ?_
      refine dloop_step ?_
      refine zaf ?_
      refine zac ?_
      refine zab rfl rfl rfl ((op_lss rfl (ev1 rfl) (ev1 rfl)).cast (d' := .val (.bool true)) (by kernel_rfl)) ?_
      refine zae ?_
      refine zaf ?_
      refine dwp_if_t rfl (rfl) ?_
      refine zak ?_
      refine zaf ?_
      refine zat ?_
      refine zaf ?_
      refine zaj 1 (by simp only [holes, List.cons_append, List.nil_append]; exact rfl) ?_
      refine zac ?_
      refine zab rfl rfl rfl (zad (.inl rfl) (ev1 rfl)) ?_
      refine zab rfl rfl rfl (op_ixwr (1) rfl av173 (ev1 rfl) (ev1 rfl) (fun _ => rfl) (fun _ => by decide) (Nat.le_of_ble_eq_true rfl)) ?_
      refine zam rfl rfl rfl (zaq 3 rfl zr172 rfl) (by simp only [upd, za, zaa]; exact rfl) ?_
      refine zab rfl rfl rfl (zad (.inr rfl) (ev1 rfl)) ?_
      refine zax rfl rfl (op_stam rfl tb172 (ev1 rfl) (ev1 rfl) rfl rfl rfl rfl) (by simp only [upd, za, zaa]; exact rfl) ?_
      refine zae ?_
      refine zaf ?_
      refine zac ?_
      refine zab rfl rfl rfl (zap rfl fo164_0 (ev1 rfl)) ?_
      refine zab rfl rfl rfl (zav rfl tb3 (ev1 rfl) rfl rfl) ?_
      refine zab rfl rfl rfl (zad (.inl rfl) (ev1 rfl)) ?_
      refine zab rfl rfl rfl ((op_shr (1) rfl (ev1 rfl) (ev1 rfl) (fun _ => ⟨rfl, by decide⟩)).cast (d' := .val (.int .i64 23)) (by kernel_rfl)) ?_
      refine zab rfl rfl rfl ((op_iand rfl (ev1 rfl) (ev1 rfl)).cast (d' := .val (.int .i64 1)) (by kernel_rfl)) ?_
      refine zab rfl rfl rfl ((zb rfl (ev1 rfl) (ev1 rfl)).cast (d' := .val (.bool true)) (by kernel_rfl)) ?_
      refine zab rfl rfl rfl (zad (.inl rfl) (ev1 rfl)) ?_
      refine zai (zar (b := true) rfl rfl rfl) rfl rfl rfl (zap rfl fo172_1 (ev1 rfl)) (by simp only [upd, za, zaa]; exact rfl) ?_
      refine zai (zar (b := true) rfl rfl rfl) rfl rfl rfl (zav rfl tb168 (ev2 rfl) rfl rfl) (by simp only [upd, za, zaa]; exact rfl) ?_
      refine zai (zar (b := true) rfl rfl rfl) rfl rfl rfl (op_ldmw rfl tb164 (ev1 rfl) rfl rfl) (by simp only [upd, za, zaa]; exact rfl) ?_
      refine zai (zar (b := true) rfl rfl rfl) rfl rfl rfl (zah [] [0] [] rfl (ev2 rfl) (ec (ev2 rfl) (ec (ev1 rfl) en)) rfl rfl (fit1_d _ _ _ _ _) rfl rfl rfl rfl rfl rfl) (by simp only [upd, za, zaa]; exact rfl) ?_
      refine zai (zar (b := true) rfl rfl rfl) rfl rfl rfl (op_not rfl (ev2 rfl)) (by simp only [upd, za, zaa]; exact rfl) ?_
      refine zab rfl rfl rfl (zaz rfl (ev1 rfl) (ev3 rfl (fun _ => rfl))) ?_
      refine zab rfl rfl rfl (zad (.inl rfl) (ev1 rfl)) ?_
      refine zag (zan rfl rfl rfl) rfl rfl rfl (zap rfl fo164_0 (ev1 rfl)) ?_
      refine zag (zan rfl rfl rfl) rfl rfl rfl (zav rfl tb3 (ev2 rfl) rfl rfl) ?_
      refine zag (zan rfl rfl rfl) rfl rfl rfl (zad (.inl rfl) (ev1 rfl)) ?_
      refine zag (zan rfl rfl rfl) rfl rfl rfl ((op_shr (1) rfl (ev2 rfl) (ev2 rfl) (fun _ => ⟨rfl, by decide⟩)).cast (d' := .val (.int .i64 23)) (by kernel_rfl)) ?_
      refine zag (zan rfl rfl rfl) rfl rfl rfl ((op_iand rfl (ev2 rfl) (ev1 rfl)).cast (d' := .val (.int .i64 1)) (by kernel_rfl)) ?_
      refine zag (zan rfl rfl rfl) rfl rfl rfl ((zb rfl (ev2 rfl) (ev1 rfl)).cast (d' := .val (.bool false)) (by kernel_rfl)) ?_
      refine zag (zan rfl rfl rfl) rfl rfl rfl (zad (.inl rfl) (ev2 rfl)) ?_
      refine zag (zay rfl rfl rfl) rfl rfl rfl (zap rfl fo172_2 (ev1 rfl)) ?_
      refine zag (zay rfl rfl rfl) rfl rfl rfl (zav rfl tb169 (ev2 rfl) rfl rfl) ?_
      refine zag (zay rfl rfl rfl) rfl rfl rfl (zah [] [0] [] rfl (ev2 rfl) (ec (ev1 rfl) en) rfl rfl (blk1_d _) rfl rfl rfl rfl rfl rfl) ?_
      refine zag (zay rfl rfl rfl) rfl rfl rfl (op_not rfl (ev2 rfl)) ?_
      refine zag (zan rfl rfl rfl) rfl rfl rfl ((zaz rfl (ev2 rfl) (ev2 rfl)).cast (d' := .val (.bool false)) (by rfl)) ?_
      refine zab rfl rfl rfl (op_or rfl (ev1 rfl) (ev3 rfl id)) ?_
      refine zae ?_
      refine zaw rfl (fun c5 => ?_) (fun c5 => ?_)
      · refine zaf ?_
        refine zac ?_
        refine zab rfl rfl rfl (zad (.inr rfl) (ev1 rfl)) ?_
        refine zae ?_
        refine zau ?_
        refine kend0 (rs1 rfl (rv_t rfl)) rfl ?_
        have hb : opB o = false := by
          unfold opB
          simp_all [mostK, errz, eqI_dec, errOr_z]
          all_goals (first | (intros; omega) | (intros; simp_all; done))
        rw [hb]
        rfl
      · refine zak ?_
        refine zac ?_
        refine zab rfl rfl rfl ((op_add' rfl (ev1 rfl) (ev1 rfl) (fun _ => IntWalk.i64_in _ (by omega))).cast (d' := .val (.int .i64 2)) (by kernel_rfl)) ?_
        refine zab rfl rfl rfl (zad (.inl rfl) (ev1 rfl)) ?_
        refine zae ?_
        refine dloop_step ?_
        refine zaf ?_
        refine zac ?_
        refine zab rfl rfl rfl ((op_lss rfl (ev1 rfl) (ev1 rfl)).cast (d' := .val (.bool true)) (by kernel_rfl)) ?_
        refine zae ?_
        refine zaf ?_
        refine dwp_if_t rfl (rfl) ?_
        refine zak ?_
        refine zaf ?_
        refine zat ?_
        refine zaf ?_
        refine zaj 1 (by simp only [holes, List.cons_append, List.nil_append]; exact rfl) ?_
        refine zac ?_
        refine zab rfl rfl rfl (zad (.inl rfl) (ev1 rfl)) ?_
        refine zab rfl rfl rfl (op_ixwr (2) rfl av173 (ev1 rfl) (ev1 rfl) (fun _ => rfl) (fun _ => by decide) (Nat.le_of_ble_eq_true rfl)) ?_
        refine zam rfl rfl rfl (zaq 4 rfl zr172 rfl) (by simp only [upd, za, zaa]; exact rfl) ?_
        refine zab rfl rfl rfl (zad (.inr rfl) (ev1 rfl)) ?_
        refine zax rfl rfl (op_stam rfl tb172 (ev1 rfl) (ev1 rfl) rfl rfl rfl rfl) (by simp only [upd, za, zaa]; exact rfl) ?_
        refine zae ?_
        refine zaf ?_
        refine zac ?_
        refine zab rfl rfl rfl (zap rfl fo164_0 (ev1 rfl)) ?_
        refine zab rfl rfl rfl (zav rfl tb3 (ev1 rfl) rfl rfl) ?_
        refine zab rfl rfl rfl (zad (.inl rfl) (ev1 rfl)) ?_
        refine zab rfl rfl rfl ((op_shr (2) rfl (ev1 rfl) (ev1 rfl) (fun _ => ⟨rfl, by decide⟩)).cast (d' := .val (.int .i64 11)) (by kernel_rfl)) ?_
        refine zab rfl rfl rfl ((op_iand rfl (ev1 rfl) (ev1 rfl)).cast (d' := .val (.int .i64 1)) (by kernel_rfl)) ?_
        refine zab rfl rfl rfl ((zb rfl (ev1 rfl) (ev1 rfl)).cast (d' := .val (.bool true)) (by kernel_rfl)) ?_
        refine zab rfl rfl rfl (zad (.inl rfl) (ev1 rfl)) ?_
        refine zai (zar (b := true) rfl rfl rfl) rfl rfl rfl (zap rfl fo172_1 (ev1 rfl)) (by simp only [upd, za, zaa]; exact rfl) ?_
        refine zai (zar (b := true) rfl rfl rfl) rfl rfl rfl (zav rfl tb168 (ev2 rfl) rfl rfl) (by simp only [upd, za, zaa]; exact rfl) ?_
        refine zai (zar (b := true) rfl rfl rfl) rfl rfl rfl (op_ldmw rfl tb164 (ev1 rfl) rfl rfl) (by simp only [upd, za, zaa]; exact rfl) ?_
        refine zai (zar (b := true) rfl rfl rfl) rfl rfl rfl (zah [] [0] [] rfl (ev2 rfl) (ec (ev2 rfl) (ec (ev1 rfl) en)) rfl rfl (fit2_d _ _ _ _ _) rfl rfl rfl rfl rfl rfl) (by simp only [upd, za, zaa]; exact rfl) ?_
        refine zai (zar (b := true) rfl rfl rfl) rfl rfl rfl (op_not rfl (ev2 rfl)) (by simp only [upd, za, zaa]; exact rfl) ?_
        refine zab rfl rfl rfl (zaz rfl (ev1 rfl) (ev3 rfl (fun _ => rfl))) ?_
        refine zab rfl rfl rfl (zad (.inl rfl) (ev1 rfl)) ?_
        refine zag (zan rfl rfl rfl) rfl rfl rfl (zap rfl fo164_0 (ev1 rfl)) ?_
        refine zag (zan rfl rfl rfl) rfl rfl rfl (zav rfl tb3 (ev2 rfl) rfl rfl) ?_
        refine zag (zan rfl rfl rfl) rfl rfl rfl (zad (.inl rfl) (ev1 rfl)) ?_
        refine zag (zan rfl rfl rfl) rfl rfl rfl ((op_shr (2) rfl (ev2 rfl) (ev2 rfl) (fun _ => ⟨rfl, by decide⟩)).cast (d' := .val (.int .i64 11)) (by kernel_rfl)) ?_
        refine zag (zan rfl rfl rfl) rfl rfl rfl ((op_iand rfl (ev2 rfl) (ev1 rfl)).cast (d' := .val (.int .i64 1)) (by kernel_rfl)) ?_
        refine zag (zan rfl rfl rfl) rfl rfl rfl ((zb rfl (ev2 rfl) (ev1 rfl)).cast (d' := .val (.bool false)) (by kernel_rfl)) ?_
        refine zag (zan rfl rfl rfl) rfl rfl rfl (zad (.inl rfl) (ev2 rfl)) ?_
        refine zag (zay rfl rfl rfl) rfl rfl rfl (zap rfl fo172_2 (ev1 rfl)) ?_
        refine zag (zay rfl rfl rfl) rfl rfl rfl (zav rfl tb169 (ev2 rfl) rfl rfl) ?_
        refine zag (zay rfl rfl rfl) rfl rfl rfl (zah [] [0] [] rfl (ev2 rfl) (ec (ev1 rfl) en) rfl rfl (blk2_d _) rfl rfl rfl rfl rfl rfl) ?_
        refine zag (zay rfl rfl rfl) rfl rfl rfl (op_not rfl (ev2 rfl)) ?_
        refine zag (zan rfl rfl rfl) rfl rfl rfl ((zaz rfl (ev2 rfl) (ev2 rfl)).cast (d' := .val (.bool false)) (by rfl)) ?_
        refine zab rfl rfl rfl (op_or rfl (ev1 rfl) (ev3 rfl id)) ?_
        refine zae ?_
        refine zaw rfl (fun c7 => ?_) (fun c7 => ?_)
        · refine zaf ?_
          refine zac ?_
          refine zab rfl rfl rfl (zad (.inr rfl) (ev1 rfl)) ?_
          refine zae ?_
          refine zau ?_
          refine kend0 (rs1 rfl (rv_t rfl)) rfl ?_
          have hb : opB o = false := by
            unfold opB
            simp_all [mostK, errz, eqI_dec, errOr_z]
            all_goals (first | (intros; omega) | (intros; simp_all; done))
          rw [hb]
          rfl
        · refine zak ?_
          refine zac ?_
          refine zab rfl rfl rfl ((op_add' rfl (ev1 rfl) (ev1 rfl) (fun _ => IntWalk.i64_in _ (by omega))).cast (d' := .val (.int .i64 3)) (by kernel_rfl)) ?_
          refine zab rfl rfl rfl (zad (.inl rfl) (ev1 rfl)) ?_
          refine zae ?_
          refine dloop_step ?_
          refine zaf ?_
          refine zac ?_
          refine zab rfl rfl rfl ((op_lss rfl (ev1 rfl) (ev1 rfl)).cast (d' := .val (.bool true)) (by kernel_rfl)) ?_
          refine zae ?_
          refine zaf ?_
          refine dwp_if_t rfl (rfl) ?_
          refine zak ?_
          refine zaf ?_
          refine zat ?_
          refine zaf ?_
          refine zaj 1 (by simp only [holes, List.cons_append, List.nil_append]; exact rfl) ?_
          refine zac ?_
          refine zab rfl rfl rfl (zad (.inl rfl) (ev1 rfl)) ?_
          refine zab rfl rfl rfl (op_ixwr (3) rfl av173 (ev1 rfl) (ev1 rfl) (fun _ => rfl) (fun _ => by decide) (Nat.le_of_ble_eq_true rfl)) ?_
          refine zam rfl rfl rfl (zaq 5 rfl zr172 rfl) (by simp only [upd, za, zaa]; exact rfl) ?_
          refine zab rfl rfl rfl (zad (.inr rfl) (ev1 rfl)) ?_
          refine zax rfl rfl (op_stam rfl tb172 (ev1 rfl) (ev1 rfl) rfl rfl rfl rfl) (by simp only [upd, za, zaa]; exact rfl) ?_
          refine zae ?_
          refine zaf ?_
          refine zac ?_
          refine zab rfl rfl rfl (zap rfl fo164_0 (ev1 rfl)) ?_
          refine zab rfl rfl rfl (zav rfl tb3 (ev1 rfl) rfl rfl) ?_
          refine zab rfl rfl rfl (zad (.inl rfl) (ev1 rfl)) ?_
          refine zab rfl rfl rfl ((op_shr (3) rfl (ev1 rfl) (ev1 rfl) (fun _ => ⟨rfl, by decide⟩)).cast (d' := .val (.int .i64 5)) (by kernel_rfl)) ?_
          refine zab rfl rfl rfl ((op_iand rfl (ev1 rfl) (ev1 rfl)).cast (d' := .val (.int .i64 1)) (by kernel_rfl)) ?_
          refine zab rfl rfl rfl ((zb rfl (ev1 rfl) (ev1 rfl)).cast (d' := .val (.bool true)) (by kernel_rfl)) ?_
          refine zab rfl rfl rfl (zad (.inl rfl) (ev1 rfl)) ?_
          refine zai (zar (b := true) rfl rfl rfl) rfl rfl rfl (zap rfl fo172_1 (ev1 rfl)) (by simp only [upd, za, zaa]; exact rfl) ?_
          refine zai (zar (b := true) rfl rfl rfl) rfl rfl rfl (zav rfl tb168 (ev2 rfl) rfl rfl) (by simp only [upd, za, zaa]; exact rfl) ?_
          refine zai (zar (b := true) rfl rfl rfl) rfl rfl rfl (op_ldmw rfl tb164 (ev1 rfl) rfl rfl) (by simp only [upd, za, zaa]; exact rfl) ?_
          refine zai (zar (b := true) rfl rfl rfl) rfl rfl rfl (zah [] [0] [] rfl (ev2 rfl) (ec (ev2 rfl) (ec (ev1 rfl) en)) rfl rfl (fit3_d _ _ _ _ _) rfl rfl rfl rfl rfl rfl) (by simp only [upd, za, zaa]; exact rfl) ?_
          refine zai (zar (b := true) rfl rfl rfl) rfl rfl rfl (op_not rfl (ev2 rfl)) (by simp only [upd, za, zaa]; exact rfl) ?_
          refine zab rfl rfl rfl (zaz rfl (ev1 rfl) (ev3 rfl (fun _ => rfl))) ?_
          refine zab rfl rfl rfl (zad (.inl rfl) (ev1 rfl)) ?_
          refine zag (zan rfl rfl rfl) rfl rfl rfl (zap rfl fo164_0 (ev1 rfl)) ?_
          refine zag (zan rfl rfl rfl) rfl rfl rfl (zav rfl tb3 (ev2 rfl) rfl rfl) ?_
          refine zag (zan rfl rfl rfl) rfl rfl rfl (zad (.inl rfl) (ev1 rfl)) ?_
          refine zag (zan rfl rfl rfl) rfl rfl rfl ((op_shr (3) rfl (ev2 rfl) (ev2 rfl) (fun _ => ⟨rfl, by decide⟩)).cast (d' := .val (.int .i64 5)) (by kernel_rfl)) ?_
          refine zag (zan rfl rfl rfl) rfl rfl rfl ((op_iand rfl (ev2 rfl) (ev1 rfl)).cast (d' := .val (.int .i64 1)) (by kernel_rfl)) ?_
          refine zag (zan rfl rfl rfl) rfl rfl rfl ((zb rfl (ev2 rfl) (ev1 rfl)).cast (d' := .val (.bool false)) (by kernel_rfl)) ?_
          refine zag (zan rfl rfl rfl) rfl rfl rfl (zad (.inl rfl) (ev2 rfl)) ?_
          refine zag (zay rfl rfl rfl) rfl rfl rfl (zap rfl fo172_2 (ev1 rfl)) ?_
          refine zag (zay rfl rfl rfl) rfl rfl rfl (zav rfl tb169 (ev2 rfl) rfl rfl) ?_
          refine zag (zay rfl rfl rfl) rfl rfl rfl (zah [] [0] [] rfl (ev2 rfl) (ec (ev1 rfl) en) rfl rfl (blk3_d _) rfl rfl rfl rfl rfl rfl) ?_
          refine zag (zay rfl rfl rfl) rfl rfl rfl (op_not rfl (ev2 rfl)) ?_
          refine zag (zan rfl rfl rfl) rfl rfl rfl ((zaz rfl (ev2 rfl) (ev2 rfl)).cast (d' := .val (.bool false)) (by rfl)) ?_
          refine zab rfl rfl rfl (op_or rfl (ev1 rfl) (ev3 rfl id)) ?_
          refine zae ?_
          refine zaw rfl (fun c9 => ?_) (fun c9 => ?_)
          · refine zaf ?_
            refine zac ?_
            refine zab rfl rfl rfl (zad (.inr rfl) (ev1 rfl)) ?_
            refine zae ?_
            refine zau ?_
            refine kend0 (rs1 rfl (rv_t rfl)) rfl ?_
            have hb : opB o = false := by
              unfold opB
              simp_all [mostK, errz, eqI_dec, errOr_z]
              all_goals (first | (intros; omega) | (intros; simp_all; done))
            rw [hb]
            rfl
          · refine zak ?_
            refine zac ?_
            refine zab rfl rfl rfl ((op_add' rfl (ev1 rfl) (ev1 rfl) (fun _ => IntWalk.i64_in _ (by omega))).cast (d' := .val (.int .i64 4)) (by kernel_rfl)) ?_
            refine zab rfl rfl rfl (zad (.inl rfl) (ev1 rfl)) ?_
            refine zae ?_
            refine dloop_step ?_
            refine zaf ?_
            refine zac ?_
            refine zab rfl rfl rfl ((op_lss rfl (ev1 rfl) (ev1 rfl)).cast (d' := .val (.bool true)) (by kernel_rfl)) ?_
            refine zae ?_
            refine zaf ?_
            refine dwp_if_t rfl (rfl) ?_
            refine zak ?_
            refine zaf ?_
            refine zat ?_
            refine zaf ?_
            refine zaj 1 (by simp only [holes, List.cons_append, List.nil_append]; exact rfl) ?_
            refine zac ?_
            refine zab rfl rfl rfl (zad (.inl rfl) (ev1 rfl)) ?_
            refine zab rfl rfl rfl (op_ixwr (4) rfl av173 (ev1 rfl) (ev1 rfl) (fun _ => rfl) (fun _ => by decide) (Nat.le_of_ble_eq_true rfl)) ?_
            refine zam rfl rfl rfl (zaq 6 rfl zr172 rfl) (by simp only [upd, za, zaa]; exact rfl) ?_
            refine zab rfl rfl rfl (zad (.inr rfl) (ev1 rfl)) ?_
            refine zax rfl rfl (op_stam rfl tb172 (ev1 rfl) (ev1 rfl) rfl rfl rfl rfl) (by simp only [upd, za, zaa]; exact rfl) ?_
            refine zae ?_
            refine zaf ?_
            refine zac ?_
            refine zab rfl rfl rfl (zap rfl fo164_0 (ev1 rfl)) ?_
            refine zab rfl rfl rfl (zav rfl tb3 (ev1 rfl) rfl rfl) ?_
            refine zab rfl rfl rfl (zad (.inl rfl) (ev1 rfl)) ?_
            refine zab rfl rfl rfl ((op_shr (4) rfl (ev1 rfl) (ev1 rfl) (fun _ => ⟨rfl, by decide⟩)).cast (d' := .val (.int .i64 2)) (by kernel_rfl)) ?_
            refine zab rfl rfl rfl ((op_iand rfl (ev1 rfl) (ev1 rfl)).cast (d' := .val (.int .i64 0)) (by kernel_rfl)) ?_
            refine zab rfl rfl rfl ((zb rfl (ev1 rfl) (ev1 rfl)).cast (d' := .val (.bool false)) (by kernel_rfl)) ?_
            refine zab rfl rfl rfl (zad (.inl rfl) (ev1 rfl)) ?_
            refine zag (zar (b := false) rfl rfl rfl) rfl rfl rfl (zal (d := .junk)) ?_
            refine zag (zar (b := false) rfl rfl rfl) rfl rfl rfl (zal (d := .junk)) ?_
            refine zag (zar (b := false) rfl rfl rfl) rfl rfl rfl (zal (d := .junk)) ?_
            refine zag (zar (b := false) rfl rfl rfl) rfl rfl rfl (zal (d := .val (.bool false))) ?_
            refine zag (zar (b := false) rfl rfl rfl) rfl rfl rfl (zal (d := .val (.bool false))) ?_
            refine zab rfl rfl rfl ((zaz rfl (ev1 rfl) (ev3 rfl id)).cast (d' := .val (.bool false)) (by rfl)) ?_
            refine zab rfl rfl rfl (zad (.inl rfl) (ev1 rfl)) ?_
            refine zai (zan (b := false) rfl rfl rfl) rfl rfl rfl (zap rfl fo164_0 (ev1 rfl)) (by simp only [upd, za, zaa]; exact rfl) ?_
            refine zai (zan (b := false) rfl rfl rfl) rfl rfl rfl (zav rfl tb3 (ev2 rfl) rfl rfl) (by simp only [upd, za, zaa]; exact rfl) ?_
            refine zai (zan (b := false) rfl rfl rfl) rfl rfl rfl (zad (.inl rfl) (ev1 rfl)) (by simp only [upd, za, zaa]; exact rfl) ?_
            refine zai (zan (b := false) rfl rfl rfl) rfl rfl rfl ((op_shr (4) rfl (ev2 rfl) (ev2 rfl) (fun _ => ⟨rfl, by decide⟩)).cast (d' := .val (.int .i64 2)) (by kernel_rfl)) (by simp only [upd, za, zaa]; exact rfl) ?_
            refine zai (zan (b := false) rfl rfl rfl) rfl rfl rfl ((op_iand rfl (ev2 rfl) (ev1 rfl)).cast (d' := .val (.int .i64 0)) (by kernel_rfl)) (by simp only [upd, za, zaa]; exact rfl) ?_
            refine zai (zan (b := false) rfl rfl rfl) rfl rfl rfl ((zb rfl (ev2 rfl) (ev1 rfl)).cast (d' := .val (.bool true)) (by kernel_rfl)) (by simp only [upd, za, zaa]; exact rfl) ?_
            refine zai (zan (b := false) rfl rfl rfl) rfl rfl rfl (zad (.inl rfl) (ev2 rfl)) (by simp only [upd, za, zaa]; exact rfl) ?_
            refine zai (zay (g := true) (b := true) rfl rfl rfl) rfl rfl rfl (zap rfl fo172_2 (ev1 rfl)) (by simp only [upd, za, zaa]; exact rfl) ?_
            refine zai (zay (g := true) (b := true) rfl rfl rfl) rfl rfl rfl (zav rfl tb169 (ev2 rfl) rfl rfl) (by simp only [upd, za, zaa]; exact rfl) ?_
            refine zai (zay (g := true) (b := true) rfl rfl rfl) rfl rfl rfl (zah [] [0] [] rfl (ev2 rfl) (ec (ev1 rfl) en) rfl rfl (blk4_d _) rfl rfl rfl rfl rfl rfl) (by simp only [upd, za, zaa]; exact rfl) ?_
            refine zai (zay (g := true) (b := true) rfl rfl rfl) rfl rfl rfl (op_not rfl (ev2 rfl)) (by simp only [upd, za, zaa]; exact rfl) ?_
            refine zai (zan (b := false) rfl rfl rfl) rfl rfl rfl (zaz rfl (ev2 rfl) (ev3 rfl (fun _ => rfl))) (by simp only [upd, za, zaa]; exact rfl) ?_
            refine zab rfl rfl rfl (op_or rfl (ev1 rfl) (ev3 rfl (fun _ => rfl))) ?_
            refine zae ?_
            refine zaw rfl (fun c11 => ?_) (fun c11 => ?_)
            · refine zaf ?_
              refine zac ?_
              refine zab rfl rfl rfl (zad (.inr rfl) (ev1 rfl)) ?_
              refine zae ?_
              refine zau ?_
              refine kend0 (rs1 rfl (rv_t rfl)) rfl ?_
              have hb : opB o = false := by
                unfold opB
                simp_all [mostK, errz, eqI_dec, errOr_z]
                all_goals (first | (intros; omega) | (intros; simp_all; done))
              rw [hb]
              rfl
            · refine zak ?_
              refine zac ?_
              refine zab rfl rfl rfl ((op_add' rfl (ev1 rfl) (ev1 rfl) (fun _ => IntWalk.i64_in _ (by omega))).cast (d' := .val (.int .i64 5)) (by kernel_rfl)) ?_
              refine zab rfl rfl rfl (zad (.inl rfl) (ev1 rfl)) ?_
              refine zae ?_
              refine dloop_step ?_
              refine zaf ?_
              refine zac ?_
              refine zab rfl rfl rfl ((op_lss rfl (ev1 rfl) (ev1 rfl)).cast (d' := .val (.bool true)) (by kernel_rfl)) ?_
              refine zae ?_
              refine zaf ?_
              refine dwp_if_t rfl (rfl) ?_
              refine zak ?_
              refine zaf ?_
              refine zat ?_
              refine zaf ?_
              refine zaj 1 (by simp only [holes, List.cons_append, List.nil_append]; exact rfl) ?_
              refine zac ?_
              refine zab rfl rfl rfl (zad (.inl rfl) (ev1 rfl)) ?_
              refine zab rfl rfl rfl (op_ixwr (5) rfl av173 (ev1 rfl) (ev1 rfl) (fun _ => rfl) (fun _ => by decide) (Nat.le_of_ble_eq_true rfl)) ?_
              refine zam rfl rfl rfl (zaq 7 rfl zr172 rfl) (by simp only [upd, za, zaa]; exact rfl) ?_
              refine zab rfl rfl rfl (zad (.inr rfl) (ev1 rfl)) ?_
              refine zax rfl rfl (op_stam rfl tb172 (ev1 rfl) (ev1 rfl) rfl rfl rfl rfl) (by simp only [upd, za, zaa]; exact rfl) ?_
              refine zae ?_
              refine zaf ?_
              refine zac ?_
              refine zab rfl rfl rfl (zap rfl fo164_0 (ev1 rfl)) ?_
              refine zab rfl rfl rfl (zav rfl tb3 (ev1 rfl) rfl rfl) ?_
              refine zab rfl rfl rfl (zad (.inl rfl) (ev1 rfl)) ?_
              refine zab rfl rfl rfl ((op_shr (5) rfl (ev1 rfl) (ev1 rfl) (fun _ => ⟨rfl, by decide⟩)).cast (d' := .val (.int .i64 1)) (by kernel_rfl)) ?_
              refine zab rfl rfl rfl ((op_iand rfl (ev1 rfl) (ev1 rfl)).cast (d' := .val (.int .i64 1)) (by kernel_rfl)) ?_
              refine zab rfl rfl rfl ((zb rfl (ev1 rfl) (ev1 rfl)).cast (d' := .val (.bool true)) (by kernel_rfl)) ?_
              refine zab rfl rfl rfl (zad (.inl rfl) (ev1 rfl)) ?_
              refine zai (zar (b := true) rfl rfl rfl) rfl rfl rfl (zap rfl fo172_1 (ev1 rfl)) (by simp only [upd, za, zaa]; exact rfl) ?_
              refine zai (zar (b := true) rfl rfl rfl) rfl rfl rfl (zav rfl tb168 (ev2 rfl) rfl rfl) (by simp only [upd, za, zaa]; exact rfl) ?_
              refine zai (zar (b := true) rfl rfl rfl) rfl rfl rfl (op_ldmw rfl tb164 (ev1 rfl) rfl rfl) (by simp only [upd, za, zaa]; exact rfl) ?_
              refine zai (zar (b := true) rfl rfl rfl) rfl rfl rfl (zah [] [0] [] rfl (ev2 rfl) (ec (ev2 rfl) (ec (ev1 rfl) en)) rfl rfl (fit5_d _ _ _ _ _) rfl rfl rfl rfl rfl rfl) (by simp only [upd, za, zaa]; exact rfl) ?_
              refine zai (zar (b := true) rfl rfl rfl) rfl rfl rfl (op_not rfl (ev2 rfl)) (by simp only [upd, za, zaa]; exact rfl) ?_
              refine zab rfl rfl rfl (zaz rfl (ev1 rfl) (ev3 rfl (fun _ => rfl))) ?_
              refine zab rfl rfl rfl (zad (.inl rfl) (ev1 rfl)) ?_
              refine zag (zan rfl rfl rfl) rfl rfl rfl (zap rfl fo164_0 (ev1 rfl)) ?_
              refine zag (zan rfl rfl rfl) rfl rfl rfl (zav rfl tb3 (ev2 rfl) rfl rfl) ?_
              refine zag (zan rfl rfl rfl) rfl rfl rfl (zad (.inl rfl) (ev1 rfl)) ?_
              refine zag (zan rfl rfl rfl) rfl rfl rfl ((op_shr (5) rfl (ev2 rfl) (ev2 rfl) (fun _ => ⟨rfl, by decide⟩)).cast (d' := .val (.int .i64 1)) (by kernel_rfl)) ?_
              refine zag (zan rfl rfl rfl) rfl rfl rfl ((op_iand rfl (ev2 rfl) (ev1 rfl)).cast (d' := .val (.int .i64 1)) (by kernel_rfl)) ?_
              refine zag (zan rfl rfl rfl) rfl rfl rfl ((zb rfl (ev2 rfl) (ev1 rfl)).cast (d' := .val (.bool false)) (by kernel_rfl)) ?_
              refine zag (zan rfl rfl rfl) rfl rfl rfl (zad (.inl rfl) (ev2 rfl)) ?_
              refine zag (zay rfl rfl rfl) rfl rfl rfl (zap rfl fo172_2 (ev1 rfl)) ?_
              refine zag (zay rfl rfl rfl) rfl rfl rfl (zav rfl tb169 (ev2 rfl) rfl rfl) ?_
              refine zag (zay rfl rfl rfl) rfl rfl rfl (zah [] [0] [] rfl (ev2 rfl) (ec (ev1 rfl) en) rfl rfl (blk5_d _) rfl rfl rfl rfl rfl rfl) ?_
              refine zag (zay rfl rfl rfl) rfl rfl rfl (op_not rfl (ev2 rfl)) ?_
              refine zag (zan rfl rfl rfl) rfl rfl rfl ((zaz rfl (ev2 rfl) (ev2 rfl)).cast (d' := .val (.bool false)) (by rfl)) ?_
              refine zab rfl rfl rfl (op_or rfl (ev1 rfl) (ev3 rfl id)) ?_
              refine zae ?_
              refine zaw rfl (fun c13 => ?_) (fun c13 => ?_)
              · refine zaf ?_
                refine zac ?_
                refine zab rfl rfl rfl (zad (.inr rfl) (ev1 rfl)) ?_
                refine zae ?_
                refine zau ?_
                refine kend0 (rs1 rfl (rv_t rfl)) rfl ?_
                have hb : opB o = false := by
                  unfold opB
                  simp_all [mostK, errz, eqI_dec, errOr_z]
                  all_goals (first | (intros; omega) | (intros; simp_all; done))
                rw [hb]
                rfl
              · refine zak ?_
                refine zac ?_
                refine zab rfl rfl rfl ((op_add' rfl (ev1 rfl) (ev1 rfl) (fun _ => IntWalk.i64_in _ (by omega))).cast (d' := .val (.int .i64 6)) (by kernel_rfl)) ?_
                refine zab rfl rfl rfl (zad (.inl rfl) (ev1 rfl)) ?_
                refine zae ?_
                refine dloop_step ?_
                refine zaf ?_
                refine zac ?_
                refine zab rfl rfl rfl ((op_lss rfl (ev1 rfl) (ev1 rfl)).cast (d' := .val (.bool true)) (by kernel_rfl)) ?_
                refine zae ?_
                refine zaf ?_
                refine dwp_if_t rfl (rfl) ?_
                refine zak ?_
                refine zaf ?_
                refine zat ?_
                refine zaf ?_
                refine zaj 1 (by simp only [holes, List.cons_append, List.nil_append]; exact rfl) ?_
                refine zac ?_
                refine zab rfl rfl rfl (zad (.inl rfl) (ev1 rfl)) ?_
                refine zab rfl rfl rfl (op_ixwr (6) rfl av173 (ev1 rfl) (ev1 rfl) (fun _ => rfl) (fun _ => by decide) (Nat.le_of_ble_eq_true rfl)) ?_
                refine zam rfl rfl rfl (zaq 8 rfl zr172 rfl) (by simp only [upd, za, zaa]; exact rfl) ?_
                refine zab rfl rfl rfl (zad (.inr rfl) (ev1 rfl)) ?_
                refine zax rfl rfl (op_stam rfl tb172 (ev1 rfl) (ev1 rfl) rfl rfl rfl rfl) (by simp only [upd, za, zaa]; exact rfl) ?_
                refine zae ?_
                refine zaf ?_
                refine zac ?_
                refine zab rfl rfl rfl (zap rfl fo164_0 (ev1 rfl)) ?_
                refine zab rfl rfl rfl (zav rfl tb3 (ev1 rfl) rfl rfl) ?_
                refine zab rfl rfl rfl (zad (.inl rfl) (ev1 rfl)) ?_
                refine zab rfl rfl rfl ((op_shr (6) rfl (ev1 rfl) (ev1 rfl) (fun _ => ⟨rfl, by decide⟩)).cast (d' := .val (.int .i64 0)) (by kernel_rfl)) ?_
                refine zab rfl rfl rfl ((op_iand rfl (ev1 rfl) (ev1 rfl)).cast (d' := .val (.int .i64 0)) (by kernel_rfl)) ?_
                refine zab rfl rfl rfl ((zb rfl (ev1 rfl) (ev1 rfl)).cast (d' := .val (.bool false)) (by kernel_rfl)) ?_
                refine zab rfl rfl rfl (zad (.inl rfl) (ev1 rfl)) ?_
                refine zag (zar (b := false) rfl rfl rfl) rfl rfl rfl (zal (d := .junk)) ?_
                refine zag (zar (b := false) rfl rfl rfl) rfl rfl rfl (zal (d := .junk)) ?_
                refine zag (zar (b := false) rfl rfl rfl) rfl rfl rfl (zal (d := .junk)) ?_
                refine zag (zar (b := false) rfl rfl rfl) rfl rfl rfl (zal (d := .val (.bool false))) ?_
                refine zag (zar (b := false) rfl rfl rfl) rfl rfl rfl (zal (d := .val (.bool false))) ?_
                refine zab rfl rfl rfl ((zaz rfl (ev1 rfl) (ev3 rfl id)).cast (d' := .val (.bool false)) (by rfl)) ?_
                refine zab rfl rfl rfl (zad (.inl rfl) (ev1 rfl)) ?_
                refine zai (zan (b := false) rfl rfl rfl) rfl rfl rfl (zap rfl fo164_0 (ev1 rfl)) (by simp only [upd, za, zaa]; exact rfl) ?_
                refine zai (zan (b := false) rfl rfl rfl) rfl rfl rfl (zav rfl tb3 (ev2 rfl) rfl rfl) (by simp only [upd, za, zaa]; exact rfl) ?_
                refine zai (zan (b := false) rfl rfl rfl) rfl rfl rfl (zad (.inl rfl) (ev1 rfl)) (by simp only [upd, za, zaa]; exact rfl) ?_
                refine zai (zan (b := false) rfl rfl rfl) rfl rfl rfl ((op_shr (6) rfl (ev2 rfl) (ev2 rfl) (fun _ => ⟨rfl, by decide⟩)).cast (d' := .val (.int .i64 0)) (by kernel_rfl)) (by simp only [upd, za, zaa]; exact rfl) ?_
                refine zai (zan (b := false) rfl rfl rfl) rfl rfl rfl ((op_iand rfl (ev2 rfl) (ev1 rfl)).cast (d' := .val (.int .i64 0)) (by kernel_rfl)) (by simp only [upd, za, zaa]; exact rfl) ?_
                refine zai (zan (b := false) rfl rfl rfl) rfl rfl rfl ((zb rfl (ev2 rfl) (ev1 rfl)).cast (d' := .val (.bool true)) (by kernel_rfl)) (by simp only [upd, za, zaa]; exact rfl) ?_
                refine zai (zan (b := false) rfl rfl rfl) rfl rfl rfl (zad (.inl rfl) (ev2 rfl)) (by simp only [upd, za, zaa]; exact rfl) ?_
                refine zai (zay (g := true) (b := true) rfl rfl rfl) rfl rfl rfl (zap rfl fo172_2 (ev1 rfl)) (by simp only [upd, za, zaa]; exact rfl) ?_
                refine zai (zay (g := true) (b := true) rfl rfl rfl) rfl rfl rfl (zav rfl tb169 (ev2 rfl) rfl rfl) (by simp only [upd, za, zaa]; exact rfl) ?_
                refine zai (zay (g := true) (b := true) rfl rfl rfl) rfl rfl rfl (zah [] [0] [] rfl (ev2 rfl) (ec (ev1 rfl) en) rfl rfl (blk6_d _) rfl rfl rfl rfl rfl rfl) (by simp only [upd, za, zaa]; exact rfl) ?_
                refine zai (zay (g := true) (b := true) rfl rfl rfl) rfl rfl rfl (op_not rfl (ev2 rfl)) (by simp only [upd, za, zaa]; exact rfl) ?_
                refine zai (zan (b := false) rfl rfl rfl) rfl rfl rfl (zaz rfl (ev2 rfl) (ev3 rfl (fun _ => rfl))) (by simp only [upd, za, zaa]; exact rfl) ?_
                refine zab rfl rfl rfl (op_or rfl (ev1 rfl) (ev3 rfl (fun _ => rfl))) ?_
                refine zae ?_
                refine zaw rfl (fun c15 => ?_) (fun c15 => ?_)
                · refine zaf ?_
                  refine zac ?_
                  refine zab rfl rfl rfl (zad (.inr rfl) (ev1 rfl)) ?_
                  refine zae ?_
                  refine zau ?_
                  refine kend0 (rs1 rfl (rv_t rfl)) rfl ?_
                  have hb : opB o = false := by
                    unfold opB
                    simp_all [mostK, errz, eqI_dec, errOr_z]
                    all_goals (first | (intros; omega) | (intros; simp_all; done))
                  rw [hb]
                  rfl
                · refine zak ?_
                  refine zac ?_
                  refine zab rfl rfl rfl ((op_add' rfl (ev1 rfl) (ev1 rfl) (fun _ => IntWalk.i64_in _ (by omega))).cast (d' := .val (.int .i64 7)) (by kernel_rfl)) ?_
                  refine zab rfl rfl rfl (zad (.inl rfl) (ev1 rfl)) ?_
                  refine zae ?_
                  refine dloop_step ?_
                  refine zaf ?_
                  refine zac ?_
                  refine zab rfl rfl rfl ((op_lss rfl (ev1 rfl) (ev1 rfl)).cast (d' := .val (.bool true)) (by kernel_rfl)) ?_
                  refine zae ?_
                  refine zaf ?_
                  refine dwp_if_t rfl (rfl) ?_
                  refine zak ?_
                  refine zaf ?_
                  refine zat ?_
                  refine zaf ?_
                  refine zaj 1 (by simp only [holes, List.cons_append, List.nil_append]; exact rfl) ?_
                  refine zac ?_
                  refine zab rfl rfl rfl (zad (.inl rfl) (ev1 rfl)) ?_
                  refine zab rfl rfl rfl (op_ixwr (7) rfl av173 (ev1 rfl) (ev1 rfl) (fun _ => rfl) (fun _ => by decide) (Nat.le_of_ble_eq_true rfl)) ?_
                  refine zam rfl rfl rfl (zaq 9 rfl zr172 rfl) (by simp only [upd, za, zaa]; exact rfl) ?_
                  refine zab rfl rfl rfl (zad (.inr rfl) (ev1 rfl)) ?_
                  refine zax rfl rfl (op_stam rfl tb172 (ev1 rfl) (ev1 rfl) rfl rfl rfl rfl) (by simp only [upd, za, zaa]; exact rfl) ?_
                  refine zae ?_
                  refine zaf ?_
                  refine zac ?_
                  refine zab rfl rfl rfl (zap rfl fo164_0 (ev1 rfl)) ?_
                  refine zab rfl rfl rfl (zav rfl tb3 (ev1 rfl) rfl rfl) ?_
                  refine zab rfl rfl rfl (zad (.inl rfl) (ev1 rfl)) ?_
                  refine zab rfl rfl rfl ((op_shr (7) rfl (ev1 rfl) (ev1 rfl) (fun _ => ⟨rfl, by decide⟩)).cast (d' := .val (.int .i64 0)) (by kernel_rfl)) ?_
                  refine zab rfl rfl rfl ((op_iand rfl (ev1 rfl) (ev1 rfl)).cast (d' := .val (.int .i64 0)) (by kernel_rfl)) ?_
                  refine zab rfl rfl rfl ((zb rfl (ev1 rfl) (ev1 rfl)).cast (d' := .val (.bool false)) (by kernel_rfl)) ?_
                  refine zab rfl rfl rfl (zad (.inl rfl) (ev1 rfl)) ?_
                  refine zag (zar (b := false) rfl rfl rfl) rfl rfl rfl (zal (d := .junk)) ?_
                  refine zag (zar (b := false) rfl rfl rfl) rfl rfl rfl (zal (d := .junk)) ?_
                  refine zag (zar (b := false) rfl rfl rfl) rfl rfl rfl (zal (d := .junk)) ?_
                  refine zag (zar (b := false) rfl rfl rfl) rfl rfl rfl (zal (d := .val (.bool false))) ?_
                  refine zag (zar (b := false) rfl rfl rfl) rfl rfl rfl (zal (d := .val (.bool false))) ?_
                  refine zab rfl rfl rfl ((zaz rfl (ev1 rfl) (ev3 rfl id)).cast (d' := .val (.bool false)) (by rfl)) ?_
                  refine zab rfl rfl rfl (zad (.inl rfl) (ev1 rfl)) ?_
                  refine zai (zan (b := false) rfl rfl rfl) rfl rfl rfl (zap rfl fo164_0 (ev1 rfl)) (by simp only [upd, za, zaa]; exact rfl) ?_
                  refine zai (zan (b := false) rfl rfl rfl) rfl rfl rfl (zav rfl tb3 (ev2 rfl) rfl rfl) (by simp only [upd, za, zaa]; exact rfl) ?_
                  refine zai (zan (b := false) rfl rfl rfl) rfl rfl rfl (zad (.inl rfl) (ev1 rfl)) (by simp only [upd, za, zaa]; exact rfl) ?_
                  refine zai (zan (b := false) rfl rfl rfl) rfl rfl rfl ((op_shr (7) rfl (ev2 rfl) (ev2 rfl) (fun _ => ⟨rfl, by decide⟩)).cast (d' := .val (.int .i64 0)) (by kernel_rfl)) (by simp only [upd, za, zaa]; exact rfl) ?_
                  refine zai (zan (b := false) rfl rfl rfl) rfl rfl rfl ((op_iand rfl (ev2 rfl) (ev1 rfl)).cast (d' := .val (.int .i64 0)) (by kernel_rfl)) (by simp only [upd, za, zaa]; exact rfl) ?_
                  refine zai (zan (b := false) rfl rfl rfl) rfl rfl rfl ((zb rfl (ev2 rfl) (ev1 rfl)).cast (d' := .val (.bool true)) (by kernel_rfl)) (by simp only [upd, za, zaa]; exact rfl) ?_
                  refine zai (zan (b := false) rfl rfl rfl) rfl rfl rfl (zad (.inl rfl) (ev2 rfl)) (by simp only [upd, za, zaa]; exact rfl) ?_
                  refine zai (zay (g := true) (b := true) rfl rfl rfl) rfl rfl rfl (zap rfl fo172_2 (ev1 rfl)) (by simp only [upd, za, zaa]; exact rfl) ?_
                  refine zai (zay (g := true) (b := true) rfl rfl rfl) rfl rfl rfl (zav rfl tb169 (ev2 rfl) rfl rfl) (by simp only [upd, za, zaa]; exact rfl) ?_
                  refine zai (zay (g := true) (b := true) rfl rfl rfl) rfl rfl rfl (zah [] [0] [] rfl (ev2 rfl) (ec (ev1 rfl) en) rfl rfl (blk7_d _) rfl rfl rfl rfl rfl rfl) (by simp only [upd, za, zaa]; exact rfl) ?_
                  refine zai (zay (g := true) (b := true) rfl rfl rfl) rfl rfl rfl (op_not rfl (ev2 rfl)) (by simp only [upd, za, zaa]; exact rfl) ?_
                  refine zai (zan (b := false) rfl rfl rfl) rfl rfl rfl (zaz rfl (ev2 rfl) (ev3 rfl (fun _ => rfl))) (by simp only [upd, za, zaa]; exact rfl) ?_
                  refine zab rfl rfl rfl (op_or rfl (ev1 rfl) (ev3 rfl (fun _ => rfl))) ?_
                  refine zae ?_
                  refine zaw rfl (fun c17 => ?_) (fun c17 => ?_)
                  · refine zaf ?_
                    refine zac ?_
                    refine zab rfl rfl rfl (zad (.inr rfl) (ev1 rfl)) ?_
                    refine zae ?_
                    refine zau ?_
                    refine kend0 (rs1 rfl (rv_t rfl)) rfl ?_
                    have hb : opB o = false := by
                      unfold opB
                      simp_all [mostK, errz, eqI_dec, errOr_z]
                      all_goals (first | (intros; omega) | (intros; simp_all; done))
                    rw [hb]
                    rfl
                  · refine zak ?_
                    refine zac ?_
                    refine zab rfl rfl rfl ((op_add' rfl (ev1 rfl) (ev1 rfl) (fun _ => IntWalk.i64_in _ (by omega))).cast (d' := .val (.int .i64 8)) (by kernel_rfl)) ?_
                    refine zab rfl rfl rfl (zad (.inl rfl) (ev1 rfl)) ?_
                    refine zae ?_
                    refine dloop_step ?_
                    refine zaf ?_
                    refine zac ?_
                    refine zab rfl rfl rfl ((op_lss rfl (ev1 rfl) (ev1 rfl)).cast (d' := .val (.bool false)) (by kernel_rfl)) ?_
                    refine zae ?_
                    refine zaf ?_
                    refine dwp_if_f rfl (rfl) ?_
                    refine dwp_exit ?_
                    refine zaf ?_
                    refine zac ?_
                    refine zab rfl rfl rfl (zad (.inr rfl) (ev1 rfl)) ?_
                    refine zae ?_
                    refine zau ?_
                    refine kend0 (rs1 rfl (rv_t rfl)) rfl ?_
                    have hb : opB o = true := by
                      unfold opB
                      simp_all [mostK, errz, eqI_dec, errOr_z]
                      all_goals (first | (intros; omega) | (intros; simp_all; done))
                    rw [hb]
                    rfl
set_option maxRecDepth 4000 in
set_option maxHeartbeats 1000000 in
theorem opc_4 (o : OpM) (hk : o.kd = 4) : DFun Tryz.prog 92 [.agg (opD o)] [] (.val (.int .i64 (errOr (opB o) 220))) [] := by
  refine zba (N := 54) 0 (by kernel_rfl) Tryz.func92 rfl rfl rfl (by simp only [fr0, Nat.zero_add, Nat.reduceAdd]; exact rfl) rfl fun s0 hs0 => ?_
  refine zaf ?_
  refine zaj 1 (by simp only [holes, List.cons_append, List.nil_append]; exact rfl) ?_
  refine zac ?_
  refine zam rfl rfl rfl (op_boxam 0 rfl (ev1 rfl) rfl) (by simp only [upd, za, zaa]; exact rfl) ?_
  refine zab rfl rfl rfl (zad (.inr rfl) (ev1 rfl)) ?_
  refine zae ?_
  refine zaf ?_
  refine zaj 1 (by simp only [holes, List.cons_append, List.nil_append]; exact rfl) ?_
  refine zac ?_
  refine zab rfl rfl rfl (zap rfl fo68_1 (ev1 rfl)) ?_
  refine zab rfl rfl rfl ((zav rfl tb3 (ev1 rfl) rfl rfl : DOp _ _ _ _ _ _ (.val (.int .i64 o.kd)) _).cast (d' := .val (.int .i64 4)) (by rw [hk])) ?_
  refine zab rfl rfl rfl (zah [] [] [] rfl (ev1 rfl) (ec (ev1 rfl) en) rfl rfl (kindOf_4) rfl rfl rfl rfl rfl rfl) ?_
  refine zab rfl rfl rfl (zad (.inl rfl) (ev1 rfl)) ?_
  refine zab rfl rfl rfl (op_ext rfl (ev1 rfl) rfl) ?_
  refine zab rfl rfl rfl (op_ext rfl (ev1 rfl) rfl) ?_
  refine zam rfl rfl rfl (zaq 1 rfl zr164 rfl) (by simp only [upd, za, zaa]; exact rfl) ?_
  refine zax rfl rfl (op_stam rfl tb164 (ev1 rfl) (ev1 rfl) rfl rfl rfl rfl) (by simp only [upd, za, zaa]; exact rfl) ?_
  refine zab rfl rfl rfl (zad (.inr rfl) (ev1 rfl)) ?_
  refine zae ?_
  refine zaf ?_
  refine zaf ?_
  refine zac ?_
  refine zab rfl rfl rfl (zad (.inl rfl) (ev1 rfl)) ?_
  refine zab rfl rfl rfl ((op_not rfl (ev1 rfl)).cast (d' := .val (.bool false)) (by kernel_rfl)) ?_
  refine zab rfl rfl rfl (zad (.inl rfl) (ev1 rfl)) ?_
  refine zai (zan (b := false) rfl rfl rfl) rfl rfl rfl (zap rfl fo68_0 (ev1 rfl)) (by simp only [upd, za, zaa]; exact rfl) ?_
  refine zai (zan (b := false) rfl rfl rfl) rfl rfl rfl (op_ldmv (R := [_, _, _]) rfl tb61 (ev2 rfl) rfl rfl rfl) (by simp only [upd, za, zaa]; exact rfl) ?_
  refine zai (zan (b := false) rfl rfl rfl) rfl rfl rfl (zah [] [] [] rfl (ev1 rfl) (ec (ev2 rfl) en) rfl rfl (idCheck_d _) rfl rfl rfl rfl rfl rfl) (by simp only [upd, za, zaa]; exact rfl) ?_
  refine zai (zan (b := false) rfl rfl rfl) rfl rfl rfl (op_neq rfl (ev2 rfl) (ev1 rfl)) (by simp only [upd, za, zaa]; exact rfl) ?_
  refine zab rfl rfl rfl (op_or rfl (ev1 rfl) (ev3 rfl (fun _ => rfl))) ?_
  refine zae ?_
  refine zaw rfl (fun c1 => ?_) (fun c1 => ?_)
  · refine zaf ?_
    refine zac ?_
    refine zab rfl rfl rfl (zad (.inr rfl) (ev1 rfl)) ?_
    refine zae ?_
    refine zau ?_
    refine kend0 (rs1 rfl (rv_t rfl)) rfl ?_
    have hb : opB o = false := by
      unfold opB
      simp_all [mostK, errz, eqI_dec, errOr_z]
      all_goals (first | (intros; omega) | (intros; simp_all; done))
    rw [hb]
    rfl
  · refine zak ?_
    refine zaf ?_
    refine zaf ?_
    refine zac ?_
    refine zab rfl rfl rfl (zah [] [] [] rfl (ev1 rfl) en rfl rfl (fields_d) rfl rfl rfl rfl rfl rfl) ?_
    refine zab rfl rfl rfl (zad (.inl rfl) (ev1 rfl)) ?_
    refine zae ?_
    refine zat ?_
    refine dwp_dloop (dloop_step ?_)
    refine zaf ?_
    refine zac ?_
    refine zab rfl rfl rfl ((op_lss rfl (ev1 rfl) (ev1 rfl)).cast (d' := .val (.bool true)) (by kernel_rfl)) ?_
    refine zae ?_
    refine zaf ?_
    refine dwp_if_t rfl (rfl) ?_
    refine zak ?_
    refine zaf ?_
    refine zat ?_
    refine zaf ?_
    refine zaj 1 (by simp only [holes, List.cons_append, List.nil_append]; exact rfl) ?_
    refine zac ?_
    refine zab rfl rfl rfl (zad (.inl rfl) (ev1 rfl)) ?_
    refine zab rfl rfl rfl (op_ixwr (0) rfl av173 (ev1 rfl) (ev1 rfl) (fun _ => rfl) (fun _ => by decide) (Nat.le_of_ble_eq_true rfl)) ?_
    refine zam rfl rfl rfl (zaq 2 rfl zr172 rfl) (by simp only [upd, za, zaa]; exact rfl) ?_
    refine zab rfl rfl rfl (zad (.inr rfl) (ev1 rfl)) ?_
    refine zax rfl rfl (op_stam rfl tb172 (ev1 rfl) (ev1 rfl) rfl rfl rfl rfl) (by simp only [upd, za, zaa]; exact rfl) ?_
    refine zae ?_
    refine zaf ?_
    refine zac ?_
    refine zab rfl rfl rfl (zap rfl fo164_0 (ev1 rfl)) ?_
    refine zab rfl rfl rfl (zav rfl tb3 (ev1 rfl) rfl rfl) ?_
    refine zab rfl rfl rfl (zad (.inl rfl) (ev1 rfl)) ?_
    refine zab rfl rfl rfl ((op_shr (0) rfl (ev1 rfl) (ev1 rfl) (fun _ => ⟨rfl, by decide⟩)).cast (d' := .val (.int .i64 47)) (by kernel_rfl)) ?_
    refine zab rfl rfl rfl ((op_iand rfl (ev1 rfl) (ev1 rfl)).cast (d' := .val (.int .i64 1)) (by kernel_rfl)) ?_
    refine zab rfl rfl rfl ((zb rfl (ev1 rfl) (ev1 rfl)).cast (d' := .val (.bool true)) (by kernel_rfl)) ?_
    refine zab rfl rfl rfl (zad (.inl rfl) (ev1 rfl)) ?_
    refine zai (zar (b := true) rfl rfl rfl) rfl rfl rfl (zap rfl fo172_1 (ev1 rfl)) (by simp only [upd, za, zaa]; exact rfl) ?_
    refine zai (zar (b := true) rfl rfl rfl) rfl rfl rfl (zav rfl tb168 (ev2 rfl) rfl rfl) (by simp only [upd, za, zaa]; exact rfl) ?_
    refine zai (zar (b := true) rfl rfl rfl) rfl rfl rfl (op_ldmw rfl tb164 (ev1 rfl) rfl rfl) (by simp only [upd, za, zaa]; exact rfl) ?_
    refine zai (zar (b := true) rfl rfl rfl) rfl rfl rfl (zah [] [0] [] rfl (ev2 rfl) (ec (ev2 rfl) (ec (ev1 rfl) en)) rfl rfl (fit0_d _ _ _ _ _) rfl rfl rfl rfl rfl rfl) (by simp only [upd, za, zaa]; exact rfl) ?_
    refine zai (zar (b := true) rfl rfl rfl) rfl rfl rfl (op_not rfl (ev2 rfl)) (by simp only [upd, za, zaa]; exact rfl) ?_
    refine zab rfl rfl rfl (zaz rfl (ev1 rfl) (ev3 rfl (fun _ => rfl))) ?_
    refine zab rfl rfl rfl (zad (.inl rfl) (ev1 rfl)) ?_
    refine zag (zan rfl rfl rfl) rfl rfl rfl (zap rfl fo164_0 (ev1 rfl)) ?_
    refine zag (zan rfl rfl rfl) rfl rfl rfl (zav rfl tb3 (ev2 rfl) rfl rfl) ?_
    refine zag (zan rfl rfl rfl) rfl rfl rfl (zad (.inl rfl) (ev1 rfl)) ?_
    refine zag (zan rfl rfl rfl) rfl rfl rfl ((op_shr (0) rfl (ev2 rfl) (ev2 rfl) (fun _ => ⟨rfl, by decide⟩)).cast (d' := .val (.int .i64 47)) (by kernel_rfl)) ?_
    refine zag (zan rfl rfl rfl) rfl rfl rfl ((op_iand rfl (ev2 rfl) (ev1 rfl)).cast (d' := .val (.int .i64 1)) (by kernel_rfl)) ?_
    refine zag (zan rfl rfl rfl) rfl rfl rfl ((zb rfl (ev2 rfl) (ev1 rfl)).cast (d' := .val (.bool false)) (by kernel_rfl)) ?_
    refine zag (zan rfl rfl rfl) rfl rfl rfl (zad (.inl rfl) (ev2 rfl)) ?_
    refine zag (zay rfl rfl rfl) rfl rfl rfl (zap rfl fo172_2 (ev1 rfl)) ?_
    refine zag (zay rfl rfl rfl) rfl rfl rfl (zav rfl tb169 (ev2 rfl) rfl rfl) ?_
    refine zag (zay rfl rfl rfl) rfl rfl rfl (zah [] [0] [] rfl (ev2 rfl) (ec (ev1 rfl) en) rfl rfl (blk0_d _) rfl rfl rfl rfl rfl rfl) ?_
    refine zag (zay rfl rfl rfl) rfl rfl rfl (op_not rfl (ev2 rfl)) ?_
    refine zag (zan rfl rfl rfl) rfl rfl rfl ((zaz rfl (ev2 rfl) (ev2 rfl)).cast (d' := .val (.bool false)) (by rfl)) ?_
    refine zab rfl rfl rfl (op_or rfl (ev1 rfl) (ev3 rfl id)) ?_
    refine zae ?_
    refine zaw rfl (fun c3 => ?_) (fun c3 => ?_)
    · refine zaf ?_
      refine zac ?_
      refine zab rfl rfl rfl (zad (.inr rfl) (ev1 rfl)) ?_
      refine zae ?_
      refine zau ?_
      refine kend0 (rs1 rfl (rv_t rfl)) rfl ?_
      have hb : opB o = false := by
        unfold opB
        simp_all [mostK, errz, eqI_dec, errOr_z]
        all_goals (first | (intros; omega) | (intros; simp_all; done))
      rw [hb]
      rfl
    · refine zak ?_
      refine zac ?_
      refine zab rfl rfl rfl ((op_add' rfl (ev1 rfl) (ev1 rfl) (fun _ => IntWalk.i64_in _ (by omega))).cast (d' := .val (.int .i64 1)) (by kernel_rfl)) ?_
      refine zab rfl rfl rfl (zad (.inl rfl) (ev1 rfl)) ?_
      refine zae ?_
      refine dloop_step ?_
      refine zaf ?_
      refine zac ?_
      refine zab rfl rfl rfl ((op_lss rfl (ev1 rfl) (ev1 rfl)).cast (d' := .val (.bool true)) (by kernel_rfl)) ?_
      refine zae ?_
      refine zaf ?_
      refine dwp_if_t rfl (rfl) ?_
      refine zak ?_
      refine zaf ?_
      refine zat ?_
      refine zaf ?_
      refine zaj 1 (by simp only [holes, List.cons_append, List.nil_append]; exact rfl) ?_
      refine zac ?_
      refine zab rfl rfl rfl (zad (.inl rfl) (ev1 rfl)) ?_
      refine zab rfl rfl rfl (op_ixwr (1) rfl av173 (ev1 rfl) (ev1 rfl) (fun _ => rfl) (fun _ => by decide) (Nat.le_of_ble_eq_true rfl)) ?_
      refine zam rfl rfl rfl (zaq 3 rfl zr172 rfl) (by simp only [upd, za, zaa]; exact rfl) ?_
      refine zab rfl rfl rfl (zad (.inr rfl) (ev1 rfl)) ?_
      refine zax rfl rfl (op_stam rfl tb172 (ev1 rfl) (ev1 rfl) rfl rfl rfl rfl) (by simp only [upd, za, zaa]; exact rfl) ?_
      refine zae ?_
      refine zaf ?_
      refine zac ?_
      refine zab rfl rfl rfl (zap rfl fo164_0 (ev1 rfl)) ?_
      refine zab rfl rfl rfl (zav rfl tb3 (ev1 rfl) rfl rfl) ?_
      refine zab rfl rfl rfl (zad (.inl rfl) (ev1 rfl)) ?_
      refine zab rfl rfl rfl ((op_shr (1) rfl (ev1 rfl) (ev1 rfl) (fun _ => ⟨rfl, by decide⟩)).cast (d' := .val (.int .i64 23)) (by kernel_rfl)) ?_
      refine zab rfl rfl rfl ((op_iand rfl (ev1 rfl) (ev1 rfl)).cast (d' := .val (.int .i64 1)) (by kernel_rfl)) ?_
      refine zab rfl rfl rfl ((zb rfl (ev1 rfl) (ev1 rfl)).cast (d' := .val (.bool true)) (by kernel_rfl)) ?_
      refine zab rfl rfl rfl (zad (.inl rfl) (ev1 rfl)) ?_
      refine zai (zar (b := true) rfl rfl rfl) rfl rfl rfl (zap rfl fo172_1 (ev1 rfl)) (by simp only [upd, za, zaa]; exact rfl) ?_
      refine zai (zar (b := true) rfl rfl rfl) rfl rfl rfl (zav rfl tb168 (ev2 rfl) rfl rfl) (by simp only [upd, za, zaa]; exact rfl) ?_
      refine zai (zar (b := true) rfl rfl rfl) rfl rfl rfl (op_ldmw rfl tb164 (ev1 rfl) rfl rfl) (by simp only [upd, za, zaa]; exact rfl) ?_
      refine zai (zar (b := true) rfl rfl rfl) rfl rfl rfl (zah [] [0] [] rfl (ev2 rfl) (ec (ev2 rfl) (ec (ev1 rfl) en)) rfl rfl (fit1_d _ _ _ _ _) rfl rfl rfl rfl rfl rfl) (by simp only [upd, za, zaa]; exact rfl) ?_
      refine zai (zar (b := true) rfl rfl rfl) rfl rfl rfl (op_not rfl (ev2 rfl)) (by simp only [upd, za, zaa]; exact rfl) ?_
      refine zab rfl rfl rfl (zaz rfl (ev1 rfl) (ev3 rfl (fun _ => rfl))) ?_
      refine zab rfl rfl rfl (zad (.inl rfl) (ev1 rfl)) ?_
      refine zag (zan rfl rfl rfl) rfl rfl rfl (zap rfl fo164_0 (ev1 rfl)) ?_
      refine zag (zan rfl rfl rfl) rfl rfl rfl (zav rfl tb3 (ev2 rfl) rfl rfl) ?_
      refine zag (zan rfl rfl rfl) rfl rfl rfl (zad (.inl rfl) (ev1 rfl)) ?_
      refine zag (zan rfl rfl rfl) rfl rfl rfl ((op_shr (1) rfl (ev2 rfl) (ev2 rfl) (fun _ => ⟨rfl, by decide⟩)).cast (d' := .val (.int .i64 23)) (by kernel_rfl)) ?_
      refine zag (zan rfl rfl rfl) rfl rfl rfl ((op_iand rfl (ev2 rfl) (ev1 rfl)).cast (d' := .val (.int .i64 1)) (by kernel_rfl)) ?_
      refine zag (zan rfl rfl rfl) rfl rfl rfl ((zb rfl (ev2 rfl) (ev1 rfl)).cast (d' := .val (.bool false)) (by kernel_rfl)) ?_
      refine zag (zan rfl rfl rfl) rfl rfl rfl (zad (.inl rfl) (ev2 rfl)) ?_
      refine zag (zay rfl rfl rfl) rfl rfl rfl (zap rfl fo172_2 (ev1 rfl)) ?_
      refine zag (zay rfl rfl rfl) rfl rfl rfl (zav rfl tb169 (ev2 rfl) rfl rfl) ?_
      refine zag (zay rfl rfl rfl) rfl rfl rfl (zah [] [0] [] rfl (ev2 rfl) (ec (ev1 rfl) en) rfl rfl (blk1_d _) rfl rfl rfl rfl rfl rfl) ?_
      refine zag (zay rfl rfl rfl) rfl rfl rfl (op_not rfl (ev2 rfl)) ?_
      refine zag (zan rfl rfl rfl) rfl rfl rfl ((zaz rfl (ev2 rfl) (ev2 rfl)).cast (d' := .val (.bool false)) (by rfl)) ?_
      refine zab rfl rfl rfl (op_or rfl (ev1 rfl) (ev3 rfl id)) ?_
      refine zae ?_
      refine zaw rfl (fun c5 => ?_) (fun c5 => ?_)
      · refine zaf ?_
        refine zac ?_
        refine zab rfl rfl rfl (zad (.inr rfl) (ev1 rfl)) ?_
        refine zae ?_
        refine zau ?_
        refine kend0 (rs1 rfl (rv_t rfl)) rfl ?_
        have hb : opB o = false := by
          unfold opB
          simp_all [mostK, errz, eqI_dec, errOr_z]
          all_goals (first | (intros; omega) | (intros; simp_all; done))
        rw [hb]
        rfl
      · refine zak ?_
        refine zac ?_
        refine zab rfl rfl rfl ((op_add' rfl (ev1 rfl) (ev1 rfl) (fun _ => IntWalk.i64_in _ (by omega))).cast (d' := .val (.int .i64 2)) (by kernel_rfl)) ?_
        refine zab rfl rfl rfl (zad (.inl rfl) (ev1 rfl)) ?_
        refine zae ?_
        refine dloop_step ?_
        refine zaf ?_
        refine zac ?_
        refine zab rfl rfl rfl ((op_lss rfl (ev1 rfl) (ev1 rfl)).cast (d' := .val (.bool true)) (by kernel_rfl)) ?_
        refine zae ?_
        refine zaf ?_
        refine dwp_if_t rfl (rfl) ?_
        refine zak ?_
        refine zaf ?_
        refine zat ?_
        refine zaf ?_
        refine zaj 1 (by simp only [holes, List.cons_append, List.nil_append]; exact rfl) ?_
        refine zac ?_
        refine zab rfl rfl rfl (zad (.inl rfl) (ev1 rfl)) ?_
        refine zab rfl rfl rfl (op_ixwr (2) rfl av173 (ev1 rfl) (ev1 rfl) (fun _ => rfl) (fun _ => by decide) (Nat.le_of_ble_eq_true rfl)) ?_
        refine zam rfl rfl rfl (zaq 4 rfl zr172 rfl) (by simp only [upd, za, zaa]; exact rfl) ?_
        refine zab rfl rfl rfl (zad (.inr rfl) (ev1 rfl)) ?_
        refine zax rfl rfl (op_stam rfl tb172 (ev1 rfl) (ev1 rfl) rfl rfl rfl rfl) (by simp only [upd, za, zaa]; exact rfl) ?_
        refine zae ?_
        refine zaf ?_
        refine zac ?_
        refine zab rfl rfl rfl (zap rfl fo164_0 (ev1 rfl)) ?_
        refine zab rfl rfl rfl (zav rfl tb3 (ev1 rfl) rfl rfl) ?_
        refine zab rfl rfl rfl (zad (.inl rfl) (ev1 rfl)) ?_
        refine zab rfl rfl rfl ((op_shr (2) rfl (ev1 rfl) (ev1 rfl) (fun _ => ⟨rfl, by decide⟩)).cast (d' := .val (.int .i64 11)) (by kernel_rfl)) ?_
        refine zab rfl rfl rfl ((op_iand rfl (ev1 rfl) (ev1 rfl)).cast (d' := .val (.int .i64 1)) (by kernel_rfl)) ?_
        refine zab rfl rfl rfl ((zb rfl (ev1 rfl) (ev1 rfl)).cast (d' := .val (.bool true)) (by kernel_rfl)) ?_
        refine zab rfl rfl rfl (zad (.inl rfl) (ev1 rfl)) ?_
        refine zai (zar (b := true) rfl rfl rfl) rfl rfl rfl (zap rfl fo172_1 (ev1 rfl)) (by simp only [upd, za, zaa]; exact rfl) ?_
        refine zai (zar (b := true) rfl rfl rfl) rfl rfl rfl (zav rfl tb168 (ev2 rfl) rfl rfl) (by simp only [upd, za, zaa]; exact rfl) ?_
        refine zai (zar (b := true) rfl rfl rfl) rfl rfl rfl (op_ldmw rfl tb164 (ev1 rfl) rfl rfl) (by simp only [upd, za, zaa]; exact rfl) ?_
        refine zai (zar (b := true) rfl rfl rfl) rfl rfl rfl (zah [] [0] [] rfl (ev2 rfl) (ec (ev2 rfl) (ec (ev1 rfl) en)) rfl rfl (fit2_d _ _ _ _ _) rfl rfl rfl rfl rfl rfl) (by simp only [upd, za, zaa]; exact rfl) ?_
        refine zai (zar (b := true) rfl rfl rfl) rfl rfl rfl (op_not rfl (ev2 rfl)) (by simp only [upd, za, zaa]; exact rfl) ?_
        refine zab rfl rfl rfl (zaz rfl (ev1 rfl) (ev3 rfl (fun _ => rfl))) ?_
        refine zab rfl rfl rfl (zad (.inl rfl) (ev1 rfl)) ?_
        refine zag (zan rfl rfl rfl) rfl rfl rfl (zap rfl fo164_0 (ev1 rfl)) ?_
        refine zag (zan rfl rfl rfl) rfl rfl rfl (zav rfl tb3 (ev2 rfl) rfl rfl) ?_
        refine zag (zan rfl rfl rfl) rfl rfl rfl (zad (.inl rfl) (ev1 rfl)) ?_
        refine zag (zan rfl rfl rfl) rfl rfl rfl ((op_shr (2) rfl (ev2 rfl) (ev2 rfl) (fun _ => ⟨rfl, by decide⟩)).cast (d' := .val (.int .i64 11)) (by kernel_rfl)) ?_
        refine zag (zan rfl rfl rfl) rfl rfl rfl ((op_iand rfl (ev2 rfl) (ev1 rfl)).cast (d' := .val (.int .i64 1)) (by kernel_rfl)) ?_
        refine zag (zan rfl rfl rfl) rfl rfl rfl ((zb rfl (ev2 rfl) (ev1 rfl)).cast (d' := .val (.bool false)) (by kernel_rfl)) ?_
        refine zag (zan rfl rfl rfl) rfl rfl rfl (zad (.inl rfl) (ev2 rfl)) ?_
        refine zag (zay rfl rfl rfl) rfl rfl rfl (zap rfl fo172_2 (ev1 rfl)) ?_
        refine zag (zay rfl rfl rfl) rfl rfl rfl (zav rfl tb169 (ev2 rfl) rfl rfl) ?_
        refine zag (zay rfl rfl rfl) rfl rfl rfl (zah [] [0] [] rfl (ev2 rfl) (ec (ev1 rfl) en) rfl rfl (blk2_d _) rfl rfl rfl rfl rfl rfl) ?_
        refine zag (zay rfl rfl rfl) rfl rfl rfl (op_not rfl (ev2 rfl)) ?_
        refine zag (zan rfl rfl rfl) rfl rfl rfl ((zaz rfl (ev2 rfl) (ev2 rfl)).cast (d' := .val (.bool false)) (by rfl)) ?_
        refine zab rfl rfl rfl (op_or rfl (ev1 rfl) (ev3 rfl id)) ?_
        refine zae ?_
        refine zaw rfl (fun c7 => ?_) (fun c7 => ?_)
        · refine zaf ?_
          refine zac ?_
          refine zab rfl rfl rfl (zad (.inr rfl) (ev1 rfl)) ?_
          refine zae ?_
          refine zau ?_
          refine kend0 (rs1 rfl (rv_t rfl)) rfl ?_
          have hb : opB o = false := by
            unfold opB
            simp_all [mostK, errz, eqI_dec, errOr_z]
            all_goals (first | (intros; omega) | (intros; simp_all; done))
          rw [hb]
          rfl
        · refine zak ?_
          refine zac ?_
          refine zab rfl rfl rfl ((op_add' rfl (ev1 rfl) (ev1 rfl) (fun _ => IntWalk.i64_in _ (by omega))).cast (d' := .val (.int .i64 3)) (by kernel_rfl)) ?_
          refine zab rfl rfl rfl (zad (.inl rfl) (ev1 rfl)) ?_
          refine zae ?_
          refine dloop_step ?_
          refine zaf ?_
          refine zac ?_
          refine zab rfl rfl rfl ((op_lss rfl (ev1 rfl) (ev1 rfl)).cast (d' := .val (.bool true)) (by kernel_rfl)) ?_
          refine zae ?_
          refine zaf ?_
          refine dwp_if_t rfl (rfl) ?_
          refine zak ?_
          refine zaf ?_
          refine zat ?_
          refine zaf ?_
          refine zaj 1 (by simp only [holes, List.cons_append, List.nil_append]; exact rfl) ?_
          refine zac ?_
          refine zab rfl rfl rfl (zad (.inl rfl) (ev1 rfl)) ?_
          refine zab rfl rfl rfl (op_ixwr (3) rfl av173 (ev1 rfl) (ev1 rfl) (fun _ => rfl) (fun _ => by decide) (Nat.le_of_ble_eq_true rfl)) ?_
          refine zam rfl rfl rfl (zaq 5 rfl zr172 rfl) (by simp only [upd, za, zaa]; exact rfl) ?_
          refine zab rfl rfl rfl (zad (.inr rfl) (ev1 rfl)) ?_
          refine zax rfl rfl (op_stam rfl tb172 (ev1 rfl) (ev1 rfl) rfl rfl rfl rfl) (by simp only [upd, za, zaa]; exact rfl) ?_
          refine zae ?_
          refine zaf ?_
          refine zac ?_
          refine zab rfl rfl rfl (zap rfl fo164_0 (ev1 rfl)) ?_
          refine zab rfl rfl rfl (zav rfl tb3 (ev1 rfl) rfl rfl) ?_
          refine zab rfl rfl rfl (zad (.inl rfl) (ev1 rfl)) ?_
          refine zab rfl rfl rfl ((op_shr (3) rfl (ev1 rfl) (ev1 rfl) (fun _ => ⟨rfl, by decide⟩)).cast (d' := .val (.int .i64 5)) (by kernel_rfl)) ?_
          refine zab rfl rfl rfl ((op_iand rfl (ev1 rfl) (ev1 rfl)).cast (d' := .val (.int .i64 1)) (by kernel_rfl)) ?_
          refine zab rfl rfl rfl ((zb rfl (ev1 rfl) (ev1 rfl)).cast (d' := .val (.bool true)) (by kernel_rfl)) ?_
          refine zab rfl rfl rfl (zad (.inl rfl) (ev1 rfl)) ?_
          refine zai (zar (b := true) rfl rfl rfl) rfl rfl rfl (zap rfl fo172_1 (ev1 rfl)) (by simp only [upd, za, zaa]; exact rfl) ?_
          refine zai (zar (b := true) rfl rfl rfl) rfl rfl rfl (zav rfl tb168 (ev2 rfl) rfl rfl) (by simp only [upd, za, zaa]; exact rfl) ?_
          refine zai (zar (b := true) rfl rfl rfl) rfl rfl rfl (op_ldmw rfl tb164 (ev1 rfl) rfl rfl) (by simp only [upd, za, zaa]; exact rfl) ?_
          refine zai (zar (b := true) rfl rfl rfl) rfl rfl rfl (zah [] [0] [] rfl (ev2 rfl) (ec (ev2 rfl) (ec (ev1 rfl) en)) rfl rfl (fit3_d _ _ _ _ _) rfl rfl rfl rfl rfl rfl) (by simp only [upd, za, zaa]; exact rfl) ?_
          refine zai (zar (b := true) rfl rfl rfl) rfl rfl rfl (op_not rfl (ev2 rfl)) (by simp only [upd, za, zaa]; exact rfl) ?_
          refine zab rfl rfl rfl (zaz rfl (ev1 rfl) (ev3 rfl (fun _ => rfl))) ?_
          refine zab rfl rfl rfl (zad (.inl rfl) (ev1 rfl)) ?_
          refine zag (zan rfl rfl rfl) rfl rfl rfl (zap rfl fo164_0 (ev1 rfl)) ?_
          refine zag (zan rfl rfl rfl) rfl rfl rfl (zav rfl tb3 (ev2 rfl) rfl rfl) ?_
          refine zag (zan rfl rfl rfl) rfl rfl rfl (zad (.inl rfl) (ev1 rfl)) ?_
          refine zag (zan rfl rfl rfl) rfl rfl rfl ((op_shr (3) rfl (ev2 rfl) (ev2 rfl) (fun _ => ⟨rfl, by decide⟩)).cast (d' := .val (.int .i64 5)) (by kernel_rfl)) ?_
          refine zag (zan rfl rfl rfl) rfl rfl rfl ((op_iand rfl (ev2 rfl) (ev1 rfl)).cast (d' := .val (.int .i64 1)) (by kernel_rfl)) ?_
          refine zag (zan rfl rfl rfl) rfl rfl rfl ((zb rfl (ev2 rfl) (ev1 rfl)).cast (d' := .val (.bool false)) (by kernel_rfl)) ?_
          refine zag (zan rfl rfl rfl) rfl rfl rfl (zad (.inl rfl) (ev2 rfl)) ?_
          refine zag (zay rfl rfl rfl) rfl rfl rfl (zap rfl fo172_2 (ev1 rfl)) ?_
          refine zag (zay rfl rfl rfl) rfl rfl rfl (zav rfl tb169 (ev2 rfl) rfl rfl) ?_
          refine zag (zay rfl rfl rfl) rfl rfl rfl (zah [] [0] [] rfl (ev2 rfl) (ec (ev1 rfl) en) rfl rfl (blk3_d _) rfl rfl rfl rfl rfl rfl) ?_
          refine zag (zay rfl rfl rfl) rfl rfl rfl (op_not rfl (ev2 rfl)) ?_
          refine zag (zan rfl rfl rfl) rfl rfl rfl ((zaz rfl (ev2 rfl) (ev2 rfl)).cast (d' := .val (.bool false)) (by rfl)) ?_
          refine zab rfl rfl rfl (op_or rfl (ev1 rfl) (ev3 rfl id)) ?_
          refine zae ?_
          refine zaw rfl (fun c9 => ?_) (fun c9 => ?_)
          · refine zaf ?_
            refine zac ?_
            refine zab rfl rfl rfl (zad (.inr rfl) (ev1 rfl)) ?_
            refine zae ?_
            refine zau ?_
            refine kend0 (rs1 rfl (rv_t rfl)) rfl ?_
            have hb : opB o = false := by
              unfold opB
              simp_all [mostK, errz, eqI_dec, errOr_z]
              all_goals (first | (intros; omega) | (intros; simp_all; done))
            rw [hb]
            rfl
          · refine zak ?_
            refine zac ?_
            refine zab rfl rfl rfl ((op_add' rfl (ev1 rfl) (ev1 rfl) (fun _ => IntWalk.i64_in _ (by omega))).cast (d' := .val (.int .i64 4)) (by kernel_rfl)) ?_
            refine zab rfl rfl rfl (zad (.inl rfl) (ev1 rfl)) ?_
            refine zae ?_
            refine dloop_step ?_
            refine zaf ?_
            refine zac ?_
            refine zab rfl rfl rfl ((op_lss rfl (ev1 rfl) (ev1 rfl)).cast (d' := .val (.bool true)) (by kernel_rfl)) ?_
            refine zae ?_
            refine zaf ?_
            refine dwp_if_t rfl (rfl) ?_
            refine zak ?_
            refine zaf ?_
            refine zat ?_
            refine zaf ?_
            refine zaj 1 (by simp only [holes, List.cons_append, List.nil_append]; exact rfl) ?_
            refine zac ?_
            refine zab rfl rfl rfl (zad (.inl rfl) (ev1 rfl)) ?_
            refine zab rfl rfl rfl (op_ixwr (4) rfl av173 (ev1 rfl) (ev1 rfl) (fun _ => rfl) (fun _ => by decide) (Nat.le_of_ble_eq_true rfl)) ?_
            refine zam rfl rfl rfl (zaq 6 rfl zr172 rfl) (by simp only [upd, za, zaa]; exact rfl) ?_
            refine zab rfl rfl rfl (zad (.inr rfl) (ev1 rfl)) ?_
            refine zax rfl rfl (op_stam rfl tb172 (ev1 rfl) (ev1 rfl) rfl rfl rfl rfl) (by simp only [upd, za, zaa]; exact rfl) ?_
            refine zae ?_
            refine zaf ?_
            refine zac ?_
            refine zab rfl rfl rfl (zap rfl fo164_0 (ev1 rfl)) ?_
            refine zab rfl rfl rfl (zav rfl tb3 (ev1 rfl) rfl rfl) ?_
            refine zab rfl rfl rfl (zad (.inl rfl) (ev1 rfl)) ?_
            refine zab rfl rfl rfl ((op_shr (4) rfl (ev1 rfl) (ev1 rfl) (fun _ => ⟨rfl, by decide⟩)).cast (d' := .val (.int .i64 2)) (by kernel_rfl)) ?_
            refine zab rfl rfl rfl ((op_iand rfl (ev1 rfl) (ev1 rfl)).cast (d' := .val (.int .i64 0)) (by kernel_rfl)) ?_
            refine zab rfl rfl rfl ((zb rfl (ev1 rfl) (ev1 rfl)).cast (d' := .val (.bool false)) (by kernel_rfl)) ?_
            refine zab rfl rfl rfl (zad (.inl rfl) (ev1 rfl)) ?_
            refine zag (zar (b := false) rfl rfl rfl) rfl rfl rfl (zal (d := .junk)) ?_
            refine zag (zar (b := false) rfl rfl rfl) rfl rfl rfl (zal (d := .junk)) ?_
            refine zag (zar (b := false) rfl rfl rfl) rfl rfl rfl (zal (d := .junk)) ?_
            refine zag (zar (b := false) rfl rfl rfl) rfl rfl rfl (zal (d := .val (.bool false))) ?_
            refine zag (zar (b := false) rfl rfl rfl) rfl rfl rfl (zal (d := .val (.bool false))) ?_
            refine zab rfl rfl rfl ((zaz rfl (ev1 rfl) (ev3 rfl id)).cast (d' := .val (.bool false)) (by rfl)) ?_
            refine zab rfl rfl rfl (zad (.inl rfl) (ev1 rfl)) ?_
            refine zai (zan (b := false) rfl rfl rfl) rfl rfl rfl (zap rfl fo164_0 (ev1 rfl)) (by simp only [upd, za, zaa]; exact rfl) ?_
            refine zai (zan (b := false) rfl rfl rfl) rfl rfl rfl (zav rfl tb3 (ev2 rfl) rfl rfl) (by simp only [upd, za, zaa]; exact rfl) ?_
            refine zai (zan (b := false) rfl rfl rfl) rfl rfl rfl (zad (.inl rfl) (ev1 rfl)) (by simp only [upd, za, zaa]; exact rfl) ?_
            refine zai (zan (b := false) rfl rfl rfl) rfl rfl rfl ((op_shr (4) rfl (ev2 rfl) (ev2 rfl) (fun _ => ⟨rfl, by decide⟩)).cast (d' := .val (.int .i64 2)) (by kernel_rfl)) (by simp only [upd, za, zaa]; exact rfl) ?_
            refine zai (zan (b := false) rfl rfl rfl) rfl rfl rfl ((op_iand rfl (ev2 rfl) (ev1 rfl)).cast (d' := .val (.int .i64 0)) (by kernel_rfl)) (by simp only [upd, za, zaa]; exact rfl) ?_
            refine zai (zan (b := false) rfl rfl rfl) rfl rfl rfl ((zb rfl (ev2 rfl) (ev1 rfl)).cast (d' := .val (.bool true)) (by kernel_rfl)) (by simp only [upd, za, zaa]; exact rfl) ?_
            refine zai (zan (b := false) rfl rfl rfl) rfl rfl rfl (zad (.inl rfl) (ev2 rfl)) (by simp only [upd, za, zaa]; exact rfl) ?_
            refine zai (zay (g := true) (b := true) rfl rfl rfl) rfl rfl rfl (zap rfl fo172_2 (ev1 rfl)) (by simp only [upd, za, zaa]; exact rfl) ?_
            refine zai (zay (g := true) (b := true) rfl rfl rfl) rfl rfl rfl (zav rfl tb169 (ev2 rfl) rfl rfl) (by simp only [upd, za, zaa]; exact rfl) ?_
            refine zai (zay (g := true) (b := true) rfl rfl rfl) rfl rfl rfl (zah [] [0] [] rfl (ev2 rfl) (ec (ev1 rfl) en) rfl rfl (blk4_d _) rfl rfl rfl rfl rfl rfl) (by simp only [upd, za, zaa]; exact rfl) ?_
            refine zai (zay (g := true) (b := true) rfl rfl rfl) rfl rfl rfl (op_not rfl (ev2 rfl)) (by simp only [upd, za, zaa]; exact rfl) ?_
            refine zai (zan (b := false) rfl rfl rfl) rfl rfl rfl (zaz rfl (ev2 rfl) (ev3 rfl (fun _ => rfl))) (by simp only [upd, za, zaa]; exact rfl) ?_
            refine zab rfl rfl rfl (op_or rfl (ev1 rfl) (ev3 rfl (fun _ => rfl))) ?_
            refine zae ?_
            refine zaw rfl (fun c11 => ?_) (fun c11 => ?_)
            · refine zaf ?_
              refine zac ?_
              refine zab rfl rfl rfl (zad (.inr rfl) (ev1 rfl)) ?_
              refine zae ?_
              refine zau ?_
              refine kend0 (rs1 rfl (rv_t rfl)) rfl ?_
              have hb : opB o = false := by
                unfold opB
                simp_all [mostK, errz, eqI_dec, errOr_z]
                all_goals (first | (intros; omega) | (intros; simp_all; done))
              rw [hb]
              rfl
            · refine zak ?_
              refine zac ?_
              refine zab rfl rfl rfl ((op_add' rfl (ev1 rfl) (ev1 rfl) (fun _ => IntWalk.i64_in _ (by omega))).cast (d' := .val (.int .i64 5)) (by kernel_rfl)) ?_
              refine zab rfl rfl rfl (zad (.inl rfl) (ev1 rfl)) ?_
              refine zae ?_
              refine dloop_step ?_
              refine zaf ?_
              refine zac ?_
              refine zab rfl rfl rfl ((op_lss rfl (ev1 rfl) (ev1 rfl)).cast (d' := .val (.bool true)) (by kernel_rfl)) ?_
              refine zae ?_
              refine zaf ?_
              refine dwp_if_t rfl (rfl) ?_
              refine zak ?_
              refine zaf ?_
              refine zat ?_
              refine zaf ?_
              refine zaj 1 (by simp only [holes, List.cons_append, List.nil_append]; exact rfl) ?_
              refine zac ?_
              refine zab rfl rfl rfl (zad (.inl rfl) (ev1 rfl)) ?_
              refine zab rfl rfl rfl (op_ixwr (5) rfl av173 (ev1 rfl) (ev1 rfl) (fun _ => rfl) (fun _ => by decide) (Nat.le_of_ble_eq_true rfl)) ?_
              refine zam rfl rfl rfl (zaq 7 rfl zr172 rfl) (by simp only [upd, za, zaa]; exact rfl) ?_
              refine zab rfl rfl rfl (zad (.inr rfl) (ev1 rfl)) ?_
              refine zax rfl rfl (op_stam rfl tb172 (ev1 rfl) (ev1 rfl) rfl rfl rfl rfl) (by simp only [upd, za, zaa]; exact rfl) ?_
              refine zae ?_
              refine zaf ?_
              refine zac ?_
              refine zab rfl rfl rfl (zap rfl fo164_0 (ev1 rfl)) ?_
              refine zab rfl rfl rfl (zav rfl tb3 (ev1 rfl) rfl rfl) ?_
              refine zab rfl rfl rfl (zad (.inl rfl) (ev1 rfl)) ?_
              refine zab rfl rfl rfl ((op_shr (5) rfl (ev1 rfl) (ev1 rfl) (fun _ => ⟨rfl, by decide⟩)).cast (d' := .val (.int .i64 1)) (by kernel_rfl)) ?_
              refine zab rfl rfl rfl ((op_iand rfl (ev1 rfl) (ev1 rfl)).cast (d' := .val (.int .i64 1)) (by kernel_rfl)) ?_
              refine zab rfl rfl rfl ((zb rfl (ev1 rfl) (ev1 rfl)).cast (d' := .val (.bool true)) (by kernel_rfl)) ?_
              refine zab rfl rfl rfl (zad (.inl rfl) (ev1 rfl)) ?_
              refine zai (zar (b := true) rfl rfl rfl) rfl rfl rfl (zap rfl fo172_1 (ev1 rfl)) (by simp only [upd, za, zaa]; exact rfl) ?_
              refine zai (zar (b := true) rfl rfl rfl) rfl rfl rfl (zav rfl tb168 (ev2 rfl) rfl rfl) (by simp only [upd, za, zaa]; exact rfl) ?_
              refine zai (zar (b := true) rfl rfl rfl) rfl rfl rfl (op_ldmw rfl tb164 (ev1 rfl) rfl rfl) (by simp only [upd, za, zaa]; exact rfl) ?_
              refine zai (zar (b := true) rfl rfl rfl) rfl rfl rfl (zah [] [0] [] rfl (ev2 rfl) (ec (ev2 rfl) (ec (ev1 rfl) en)) rfl rfl (fit5_d _ _ _ _ _) rfl rfl rfl rfl rfl rfl) (by simp only [upd, za, zaa]; exact rfl) ?_
              refine zai (zar (b := true) rfl rfl rfl) rfl rfl rfl (op_not rfl (ev2 rfl)) (by simp only [upd, za, zaa]; exact rfl) ?_
              refine zab rfl rfl rfl (zaz rfl (ev1 rfl) (ev3 rfl (fun _ => rfl))) ?_
              refine zab rfl rfl rfl (zad (.inl rfl) (ev1 rfl)) ?_
              refine zag (zan rfl rfl rfl) rfl rfl rfl (zap rfl fo164_0 (ev1 rfl)) ?_
              refine zag (zan rfl rfl rfl) rfl rfl rfl (zav rfl tb3 (ev2 rfl) rfl rfl) ?_
              refine zag (zan rfl rfl rfl) rfl rfl rfl (zad (.inl rfl) (ev1 rfl)) ?_
              refine zag (zan rfl rfl rfl) rfl rfl rfl ((op_shr (5) rfl (ev2 rfl) (ev2 rfl) (fun _ => ⟨rfl, by decide⟩)).cast (d' := .val (.int .i64 1)) (by kernel_rfl)) ?_
              refine zag (zan rfl rfl rfl) rfl rfl rfl ((op_iand rfl (ev2 rfl) (ev1 rfl)).cast (d' := .val (.int .i64 1)) (by kernel_rfl)) ?_
              refine zag (zan rfl rfl rfl) rfl rfl rfl ((zb rfl (ev2 rfl) (ev1 rfl)).cast (d' := .val (.bool false)) (by kernel_rfl)) ?_
              refine zag (zan rfl rfl rfl) rfl rfl rfl (zad (.inl rfl) (ev2 rfl)) ?_
              refine zag (zay rfl rfl rfl) rfl rfl rfl (zap rfl fo172_2 (ev1 rfl)) ?_
              refine zag (zay rfl rfl rfl) rfl rfl rfl (zav rfl tb169 (ev2 rfl) rfl rfl) ?_
              refine zag (zay rfl rfl rfl) rfl rfl rfl (zah [] [0] [] rfl (ev2 rfl) (ec (ev1 rfl) en) rfl rfl (blk5_d _) rfl rfl rfl rfl rfl rfl) ?_
              refine zag (zay rfl rfl rfl) rfl rfl rfl (op_not rfl (ev2 rfl)) ?_
              refine zag (zan rfl rfl rfl) rfl rfl rfl ((zaz rfl (ev2 rfl) (ev2 rfl)).cast (d' := .val (.bool false)) (by rfl)) ?_
              refine zab rfl rfl rfl (op_or rfl (ev1 rfl) (ev3 rfl id)) ?_
              refine zae ?_
              refine zaw rfl (fun c13 => ?_) (fun c13 => ?_)
              · refine zaf ?_
                refine zac ?_
                refine zab rfl rfl rfl (zad (.inr rfl) (ev1 rfl)) ?_
                refine zae ?_
                refine zau ?_
                refine kend0 (rs1 rfl (rv_t rfl)) rfl ?_
                have hb : opB o = false := by
                  unfold opB
                  simp_all [mostK, errz, eqI_dec, errOr_z]
                  all_goals (first | (intros; omega) | (intros; simp_all; done))
                rw [hb]
                rfl
              · refine zak ?_
                refine zac ?_
                refine zab rfl rfl rfl ((op_add' rfl (ev1 rfl) (ev1 rfl) (fun _ => IntWalk.i64_in _ (by omega))).cast (d' := .val (.int .i64 6)) (by kernel_rfl)) ?_
                refine zab rfl rfl rfl (zad (.inl rfl) (ev1 rfl)) ?_
                refine zae ?_
                refine dloop_step ?_
                refine zaf ?_
                refine zac ?_
                refine zab rfl rfl rfl ((op_lss rfl (ev1 rfl) (ev1 rfl)).cast (d' := .val (.bool true)) (by kernel_rfl)) ?_
                refine zae ?_
                refine zaf ?_
                refine dwp_if_t rfl (rfl) ?_
                refine zak ?_
                refine zaf ?_
                refine zat ?_
                refine zaf ?_
                refine zaj 1 (by simp only [holes, List.cons_append, List.nil_append]; exact rfl) ?_
                refine zac ?_
                refine zab rfl rfl rfl (zad (.inl rfl) (ev1 rfl)) ?_
                refine zab rfl rfl rfl (op_ixwr (6) rfl av173 (ev1 rfl) (ev1 rfl) (fun _ => rfl) (fun _ => by decide) (Nat.le_of_ble_eq_true rfl)) ?_
                refine zam rfl rfl rfl (zaq 8 rfl zr172 rfl) (by simp only [upd, za, zaa]; exact rfl) ?_
                refine zab rfl rfl rfl (zad (.inr rfl) (ev1 rfl)) ?_
                refine zax rfl rfl (op_stam rfl tb172 (ev1 rfl) (ev1 rfl) rfl rfl rfl rfl) (by simp only [upd, za, zaa]; exact rfl) ?_
                refine zae ?_
                refine zaf ?_
                refine zac ?_
                refine zab rfl rfl rfl (zap rfl fo164_0 (ev1 rfl)) ?_
                refine zab rfl rfl rfl (zav rfl tb3 (ev1 rfl) rfl rfl) ?_
                refine zab rfl rfl rfl (zad (.inl rfl) (ev1 rfl)) ?_
                refine zab rfl rfl rfl ((op_shr (6) rfl (ev1 rfl) (ev1 rfl) (fun _ => ⟨rfl, by decide⟩)).cast (d' := .val (.int .i64 0)) (by kernel_rfl)) ?_
                refine zab rfl rfl rfl ((op_iand rfl (ev1 rfl) (ev1 rfl)).cast (d' := .val (.int .i64 0)) (by kernel_rfl)) ?_
                refine zab rfl rfl rfl ((zb rfl (ev1 rfl) (ev1 rfl)).cast (d' := .val (.bool false)) (by kernel_rfl)) ?_
                refine zab rfl rfl rfl (zad (.inl rfl) (ev1 rfl)) ?_
                refine zag (zar (b := false) rfl rfl rfl) rfl rfl rfl (zal (d := .junk)) ?_
                refine zag (zar (b := false) rfl rfl rfl) rfl rfl rfl (zal (d := .junk)) ?_
                refine zag (zar (b := false) rfl rfl rfl) rfl rfl rfl (zal (d := .junk)) ?_
                refine zag (zar (b := false) rfl rfl rfl) rfl rfl rfl (zal (d := .val (.bool false))) ?_
                refine zag (zar (b := false) rfl rfl rfl) rfl rfl rfl (zal (d := .val (.bool false))) ?_
                refine zab rfl rfl rfl ((zaz rfl (ev1 rfl) (ev3 rfl id)).cast (d' := .val (.bool false)) (by rfl)) ?_
                refine zab rfl rfl rfl (zad (.inl rfl) (ev1 rfl)) ?_
                refine zai (zan (b := false) rfl rfl rfl) rfl rfl rfl (zap rfl fo164_0 (ev1 rfl)) (by simp only [upd, za, zaa]; exact rfl) ?_
                refine zai (zan (b := false) rfl rfl rfl) rfl rfl rfl (zav rfl tb3 (ev2 rfl) rfl rfl) (by simp only [upd, za, zaa]; exact rfl) ?_
                refine zai (zan (b := false) rfl rfl rfl) rfl rfl rfl (zad (.inl rfl) (ev1 rfl)) (by simp only [upd, za, zaa]; exact rfl) ?_
                refine zai (zan (b := false) rfl rfl rfl) rfl rfl rfl ((op_shr (6) rfl (ev2 rfl) (ev2 rfl) (fun _ => ⟨rfl, by decide⟩)).cast (d' := .val (.int .i64 0)) (by kernel_rfl)) (by simp only [upd, za, zaa]; exact rfl) ?_
                refine zai (zan (b := false) rfl rfl rfl) rfl rfl rfl ((op_iand rfl (ev2 rfl) (ev1 rfl)).cast (d' := .val (.int .i64 0)) (by kernel_rfl)) (by simp only [upd, za, zaa]; exact rfl) ?_
                refine zai (zan (b := false) rfl rfl rfl) rfl rfl rfl ((zb rfl (ev2 rfl) (ev1 rfl)).cast (d' := .val (.bool true)) (by kernel_rfl)) (by simp only [upd, za, zaa]; exact rfl) ?_
                refine zai (zan (b := false) rfl rfl rfl) rfl rfl rfl (zad (.inl rfl) (ev2 rfl)) (by simp only [upd, za, zaa]; exact rfl) ?_
                refine zai (zay (g := true) (b := true) rfl rfl rfl) rfl rfl rfl (zap rfl fo172_2 (ev1 rfl)) (by simp only [upd, za, zaa]; exact rfl) ?_
                refine zai (zay (g := true) (b := true) rfl rfl rfl) rfl rfl rfl (zav rfl tb169 (ev2 rfl) rfl rfl) (by simp only [upd, za, zaa]; exact rfl) ?_
                refine zai (zay (g := true) (b := true) rfl rfl rfl) rfl rfl rfl (zah [] [0] [] rfl (ev2 rfl) (ec (ev1 rfl) en) rfl rfl (blk6_d _) rfl rfl rfl rfl rfl rfl) (by simp only [upd, za, zaa]; exact rfl) ?_
                refine zai (zay (g := true) (b := true) rfl rfl rfl) rfl rfl rfl (op_not rfl (ev2 rfl)) (by simp only [upd, za, zaa]; exact rfl) ?_
                refine zai (zan (b := false) rfl rfl rfl) rfl rfl rfl (zaz rfl (ev2 rfl) (ev3 rfl (fun _ => rfl))) (by simp only [upd, za, zaa]; exact rfl) ?_
                refine zab rfl rfl rfl (op_or rfl (ev1 rfl) (ev3 rfl (fun _ => rfl))) ?_
                refine zae ?_
                refine zaw rfl (fun c15 => ?_) (fun c15 => ?_)
                · refine zaf ?_
                  refine zac ?_
                  refine zab rfl rfl rfl (zad (.inr rfl) (ev1 rfl)) ?_
                  refine zae ?_
                  refine zau ?_
                  refine kend0 (rs1 rfl (rv_t rfl)) rfl ?_
                  have hb : opB o = false := by
                    unfold opB
                    simp_all [mostK, errz, eqI_dec, errOr_z]
                    all_goals (first | (intros; omega) | (intros; simp_all; done))
                  rw [hb]
                  rfl
                · refine zak ?_
                  refine zac ?_
                  refine zab rfl rfl rfl ((op_add' rfl (ev1 rfl) (ev1 rfl) (fun _ => IntWalk.i64_in _ (by omega))).cast (d' := .val (.int .i64 7)) (by kernel_rfl)) ?_
                  refine zab rfl rfl rfl (zad (.inl rfl) (ev1 rfl)) ?_
                  refine zae ?_
                  refine dloop_step ?_
                  refine zaf ?_
                  refine zac ?_
                  refine zab rfl rfl rfl ((op_lss rfl (ev1 rfl) (ev1 rfl)).cast (d' := .val (.bool true)) (by kernel_rfl)) ?_
                  refine zae ?_
                  refine zaf ?_
                  refine dwp_if_t rfl (rfl) ?_
                  refine zak ?_
                  refine zaf ?_
                  refine zat ?_
                  refine zaf ?_
                  refine zaj 1 (by simp only [holes, List.cons_append, List.nil_append]; exact rfl) ?_
                  refine zac ?_
                  refine zab rfl rfl rfl (zad (.inl rfl) (ev1 rfl)) ?_
                  refine zab rfl rfl rfl (op_ixwr (7) rfl av173 (ev1 rfl) (ev1 rfl) (fun _ => rfl) (fun _ => by decide) (Nat.le_of_ble_eq_true rfl)) ?_
                  refine zam rfl rfl rfl (zaq 9 rfl zr172 rfl) (by simp only [upd, za, zaa]; exact rfl) ?_
                  refine zab rfl rfl rfl (zad (.inr rfl) (ev1 rfl)) ?_
                  refine zax rfl rfl (op_stam rfl tb172 (ev1 rfl) (ev1 rfl) rfl rfl rfl rfl) (by simp only [upd, za, zaa]; exact rfl) ?_
                  refine zae ?_
                  refine zaf ?_
                  refine zac ?_
                  refine zab rfl rfl rfl (zap rfl fo164_0 (ev1 rfl)) ?_
                  refine zab rfl rfl rfl (zav rfl tb3 (ev1 rfl) rfl rfl) ?_
                  refine zab rfl rfl rfl (zad (.inl rfl) (ev1 rfl)) ?_
                  refine zab rfl rfl rfl ((op_shr (7) rfl (ev1 rfl) (ev1 rfl) (fun _ => ⟨rfl, by decide⟩)).cast (d' := .val (.int .i64 0)) (by kernel_rfl)) ?_
                  refine zab rfl rfl rfl ((op_iand rfl (ev1 rfl) (ev1 rfl)).cast (d' := .val (.int .i64 0)) (by kernel_rfl)) ?_
                  refine zab rfl rfl rfl ((zb rfl (ev1 rfl) (ev1 rfl)).cast (d' := .val (.bool false)) (by kernel_rfl)) ?_
                  refine zab rfl rfl rfl (zad (.inl rfl) (ev1 rfl)) ?_
                  refine zag (zar (b := false) rfl rfl rfl) rfl rfl rfl (zal (d := .junk)) ?_
                  refine zag (zar (b := false) rfl rfl rfl) rfl rfl rfl (zal (d := .junk)) ?_
                  refine zag (zar (b := false) rfl rfl rfl) rfl rfl rfl (zal (d := .junk)) ?_
                  refine zag (zar (b := false) rfl rfl rfl) rfl rfl rfl (zal (d := .val (.bool false))) ?_
                  refine zag (zar (b := false) rfl rfl rfl) rfl rfl rfl (zal (d := .val (.bool false))) ?_
                  refine zab rfl rfl rfl ((zaz rfl (ev1 rfl) (ev3 rfl id)).cast (d' := .val (.bool false)) (by rfl)) ?_
                  refine zab rfl rfl rfl (zad (.inl rfl) (ev1 rfl)) ?_
                  refine zai (zan (b := false) rfl rfl rfl) rfl rfl rfl (zap rfl fo164_0 (ev1 rfl)) (by simp only [upd, za, zaa]; exact rfl) ?_
                  refine zai (zan (b := false) rfl rfl rfl) rfl rfl rfl (zav rfl tb3 (ev2 rfl) rfl rfl) (by simp only [upd, za, zaa]; exact rfl) ?_
                  refine zai (zan (b := false) rfl rfl rfl) rfl rfl rfl (zad (.inl rfl) (ev1 rfl)) (by simp only [upd, za, zaa]; exact rfl) ?_
                  refine zai (zan (b := false) rfl rfl rfl) rfl rfl rfl ((op_shr (7) rfl (ev2 rfl) (ev2 rfl) (fun _ => ⟨rfl, by decide⟩)).cast (d' := .val (.int .i64 0)) (by kernel_rfl)) (by simp only [upd, za, zaa]; exact rfl) ?_
                  refine zai (zan (b := false) rfl rfl rfl) rfl rfl rfl ((op_iand rfl (ev2 rfl) (ev1 rfl)).cast (d' := .val (.int .i64 0)) (by kernel_rfl)) (by simp only [upd, za, zaa]; exact rfl) ?_
                  refine zai (zan (b := false) rfl rfl rfl) rfl rfl rfl ((zb rfl (ev2 rfl) (ev1 rfl)).cast (d' := .val (.bool true)) (by kernel_rfl)) (by simp only [upd, za, zaa]; exact rfl) ?_
                  refine zai (zan (b := false) rfl rfl rfl) rfl rfl rfl (zad (.inl rfl) (ev2 rfl)) (by simp only [upd, za, zaa]; exact rfl) ?_
                  refine zai (zay (g := true) (b := true) rfl rfl rfl) rfl rfl rfl (zap rfl fo172_2 (ev1 rfl)) (by simp only [upd, za, zaa]; exact rfl) ?_
                  refine zai (zay (g := true) (b := true) rfl rfl rfl) rfl rfl rfl (zav rfl tb169 (ev2 rfl) rfl rfl) (by simp only [upd, za, zaa]; exact rfl) ?_
                  refine zai (zay (g := true) (b := true) rfl rfl rfl) rfl rfl rfl (zah [] [0] [] rfl (ev2 rfl) (ec (ev1 rfl) en) rfl rfl (blk7_d _) rfl rfl rfl rfl rfl rfl) (by simp only [upd, za, zaa]; exact rfl) ?_
                  refine zai (zay (g := true) (b := true) rfl rfl rfl) rfl rfl rfl (op_not rfl (ev2 rfl)) (by simp only [upd, za, zaa]; exact rfl) ?_
                  refine zai (zan (b := false) rfl rfl rfl) rfl rfl rfl (zaz rfl (ev2 rfl) (ev3 rfl (fun _ => rfl))) (by simp only [upd, za, zaa]; exact rfl) ?_
                  refine zab rfl rfl rfl (op_or rfl (ev1 rfl) (ev3 rfl (fun _ => rfl))) ?_
                  refine zae ?_
                  refine zaw rfl (fun c17 => ?_) (fun c17 => ?_)
                  · refine zaf ?_
                    refine zac ?_
                    refine zab rfl rfl rfl (zad (.inr rfl) (ev1 rfl)) ?_
                    refine zae ?_
                    refine zau ?_
                    refine kend0 (rs1 rfl (rv_t rfl)) rfl ?_
                    have hb : opB o = false := by
                      unfold opB
                      simp_all [mostK, errz, eqI_dec, errOr_z]
                      all_goals (first | (intros; omega) | (intros; simp_all; done))
                    rw [hb]
                    rfl
                  · refine zak ?_
                    refine zac ?_
                    refine zab rfl rfl rfl ((op_add' rfl (ev1 rfl) (ev1 rfl) (fun _ => IntWalk.i64_in _ (by omega))).cast (d' := .val (.int .i64 8)) (by kernel_rfl)) ?_
                    refine zab rfl rfl rfl (zad (.inl rfl) (ev1 rfl)) ?_
                    refine zae ?_
                    refine dloop_step ?_
                    refine zaf ?_
                    refine zac ?_
                    refine zab rfl rfl rfl ((op_lss rfl (ev1 rfl) (ev1 rfl)).cast (d' := .val (.bool false)) (by kernel_rfl)) ?_
                    refine zae ?_
                    refine zaf ?_
                    refine dwp_if_f rfl (rfl) ?_
                    refine dwp_exit ?_
                    refine zaf ?_
                    refine zac ?_
                    refine zab rfl rfl rfl (zad (.inr rfl) (ev1 rfl)) ?_
                    refine zae ?_
                    refine zau ?_
                    refine kend0 (rs1 rfl (rv_t rfl)) rfl ?_
                    have hb : opB o = true := by
                      unfold opB
                      simp_all [mostK, errz, eqI_dec, errOr_z]
                      all_goals (first | (intros; omega) | (intros; simp_all; done))
                    rw [hb]
                    rfl
set_option maxRecDepth 4000 in
set_option maxHeartbeats 1000000 in
theorem opc_5 (o : OpM) (hk : o.kd = 5) : DFun Tryz.prog 92 [.agg (opD o)] [] (.val (.int .i64 (errOr (opB o) 220))) [] := by
  refine zba (N := 54) 0 (by kernel_rfl) Tryz.func92 rfl rfl rfl (by simp only [fr0, Nat.zero_add, Nat.reduceAdd]; exact rfl) rfl fun s0 hs0 => ?_
  refine zaf ?_
  refine zaj 1 (by simp only [holes, List.cons_append, List.nil_append]; exact rfl) ?_
  refine zac ?_
  refine zam rfl rfl rfl (op_boxam 0 rfl (ev1 rfl) rfl) (by simp only [upd, za, zaa]; exact rfl) ?_
  refine zab rfl rfl rfl (zad (.inr rfl) (ev1 rfl)) ?_
  refine zae ?_
  refine zaf ?_
  refine zaj 1 (by simp only [holes, List.cons_append, List.nil_append]; exact rfl) ?_
  refine zac ?_
  refine zab rfl rfl rfl (zap rfl fo68_1 (ev1 rfl)) ?_
  refine zab rfl rfl rfl ((zav rfl tb3 (ev1 rfl) rfl rfl : DOp _ _ _ _ _ _ (.val (.int .i64 o.kd)) _).cast (d' := .val (.int .i64 5)) (by rw [hk])) ?_
  refine zab rfl rfl rfl (zah [] [] [] rfl (ev1 rfl) (ec (ev1 rfl) en) rfl rfl (kindOf_5) rfl rfl rfl rfl rfl rfl) ?_
  refine zab rfl rfl rfl (zad (.inl rfl) (ev1 rfl)) ?_
  refine zab rfl rfl rfl (op_ext rfl (ev1 rfl) rfl) ?_
  refine zab rfl rfl rfl (op_ext rfl (ev1 rfl) rfl) ?_
  refine zam rfl rfl rfl (zaq 1 rfl zr164 rfl) (by simp only [upd, za, zaa]; exact rfl) ?_
  refine zax rfl rfl (op_stam rfl tb164 (ev1 rfl) (ev1 rfl) rfl rfl rfl rfl) (by simp only [upd, za, zaa]; exact rfl) ?_
  refine zab rfl rfl rfl (zad (.inr rfl) (ev1 rfl)) ?_
  refine zae ?_
  refine zaf ?_
  refine zaf ?_
  refine zac ?_
  refine zab rfl rfl rfl (zad (.inl rfl) (ev1 rfl)) ?_
  refine zab rfl rfl rfl ((op_not rfl (ev1 rfl)).cast (d' := .val (.bool false)) (by kernel_rfl)) ?_
  refine zab rfl rfl rfl (zad (.inl rfl) (ev1 rfl)) ?_
  refine zai (zan (b := false) rfl rfl rfl) rfl rfl rfl (zap rfl fo68_0 (ev1 rfl)) (by simp only [upd, za, zaa]; exact rfl) ?_
  refine zai (zan (b := false) rfl rfl rfl) rfl rfl rfl (op_ldmv (R := [_, _, _]) rfl tb61 (ev2 rfl) rfl rfl rfl) (by simp only [upd, za, zaa]; exact rfl) ?_
  refine zai (zan (b := false) rfl rfl rfl) rfl rfl rfl (zah [] [] [] rfl (ev1 rfl) (ec (ev2 rfl) en) rfl rfl (idCheck_d _) rfl rfl rfl rfl rfl rfl) (by simp only [upd, za, zaa]; exact rfl) ?_
  refine zai (zan (b := false) rfl rfl rfl) rfl rfl rfl (op_neq rfl (ev2 rfl) (ev1 rfl)) (by simp only [upd, za, zaa]; exact rfl) ?_
  refine zab rfl rfl rfl (op_or rfl (ev1 rfl) (ev3 rfl (fun _ => rfl))) ?_
  refine zae ?_
  refine zaw rfl (fun c1 => ?_) (fun c1 => ?_)
  · refine zaf ?_
    refine zac ?_
    refine zab rfl rfl rfl (zad (.inr rfl) (ev1 rfl)) ?_
    refine zae ?_
    refine zau ?_
    refine kend0 (rs1 rfl (rv_t rfl)) rfl ?_
    have hb : opB o = false := by
      unfold opB
      simp_all [mostK, errz, eqI_dec, errOr_z]
      all_goals (first | (intros; omega) | (intros; simp_all; done))
    rw [hb]
    rfl
  · refine zak ?_
    refine zaf ?_
    refine zaf ?_
    refine zac ?_
    refine zab rfl rfl rfl (zah [] [] [] rfl (ev1 rfl) en rfl rfl (fields_d) rfl rfl rfl rfl rfl rfl) ?_
    refine zab rfl rfl rfl (zad (.inl rfl) (ev1 rfl)) ?_
    refine zae ?_
    refine zat ?_
    refine dwp_dloop (dloop_step ?_)
    refine zaf ?_
    refine zac ?_
    refine zab rfl rfl rfl ((op_lss rfl (ev1 rfl) (ev1 rfl)).cast (d' := .val (.bool true)) (by kernel_rfl)) ?_
    refine zae ?_
    refine zaf ?_
    refine dwp_if_t rfl (rfl) ?_
    refine zak ?_
    refine zaf ?_
    refine zat ?_
    refine zaf ?_
    refine zaj 1 (by simp only [holes, List.cons_append, List.nil_append]; exact rfl) ?_
    refine zac ?_
    refine zab rfl rfl rfl (zad (.inl rfl) (ev1 rfl)) ?_
    refine zab rfl rfl rfl (op_ixwr (0) rfl av173 (ev1 rfl) (ev1 rfl) (fun _ => rfl) (fun _ => by decide) (Nat.le_of_ble_eq_true rfl)) ?_
    refine zam rfl rfl rfl (zaq 2 rfl zr172 rfl) (by simp only [upd, za, zaa]; exact rfl) ?_
    refine zab rfl rfl rfl (zad (.inr rfl) (ev1 rfl)) ?_
    refine zax rfl rfl (op_stam rfl tb172 (ev1 rfl) (ev1 rfl) rfl rfl rfl rfl) (by simp only [upd, za, zaa]; exact rfl) ?_
    refine zae ?_
    refine zaf ?_
    refine zac ?_
    refine zab rfl rfl rfl (zap rfl fo164_0 (ev1 rfl)) ?_
    refine zab rfl rfl rfl (zav rfl tb3 (ev1 rfl) rfl rfl) ?_
    refine zab rfl rfl rfl (zad (.inl rfl) (ev1 rfl)) ?_
    refine zab rfl rfl rfl ((op_shr (0) rfl (ev1 rfl) (ev1 rfl) (fun _ => ⟨rfl, by decide⟩)).cast (d' := .val (.int .i64 51)) (by kernel_rfl)) ?_
    refine zab rfl rfl rfl ((op_iand rfl (ev1 rfl) (ev1 rfl)).cast (d' := .val (.int .i64 1)) (by kernel_rfl)) ?_
    refine zab rfl rfl rfl ((zb rfl (ev1 rfl) (ev1 rfl)).cast (d' := .val (.bool true)) (by kernel_rfl)) ?_
    refine zab rfl rfl rfl (zad (.inl rfl) (ev1 rfl)) ?_
    refine zai (zar (b := true) rfl rfl rfl) rfl rfl rfl (zap rfl fo172_1 (ev1 rfl)) (by simp only [upd, za, zaa]; exact rfl) ?_
    refine zai (zar (b := true) rfl rfl rfl) rfl rfl rfl (zav rfl tb168 (ev2 rfl) rfl rfl) (by simp only [upd, za, zaa]; exact rfl) ?_
    refine zai (zar (b := true) rfl rfl rfl) rfl rfl rfl (op_ldmw rfl tb164 (ev1 rfl) rfl rfl) (by simp only [upd, za, zaa]; exact rfl) ?_
    refine zai (zar (b := true) rfl rfl rfl) rfl rfl rfl (zah [] [0] [] rfl (ev2 rfl) (ec (ev2 rfl) (ec (ev1 rfl) en)) rfl rfl (fit0_d _ _ _ _ _) rfl rfl rfl rfl rfl rfl) (by simp only [upd, za, zaa]; exact rfl) ?_
    refine zai (zar (b := true) rfl rfl rfl) rfl rfl rfl (op_not rfl (ev2 rfl)) (by simp only [upd, za, zaa]; exact rfl) ?_
    refine zab rfl rfl rfl (zaz rfl (ev1 rfl) (ev3 rfl (fun _ => rfl))) ?_
    refine zab rfl rfl rfl (zad (.inl rfl) (ev1 rfl)) ?_
    refine zag (zan rfl rfl rfl) rfl rfl rfl (zap rfl fo164_0 (ev1 rfl)) ?_
    refine zag (zan rfl rfl rfl) rfl rfl rfl (zav rfl tb3 (ev2 rfl) rfl rfl) ?_
    refine zag (zan rfl rfl rfl) rfl rfl rfl (zad (.inl rfl) (ev1 rfl)) ?_
    refine zag (zan rfl rfl rfl) rfl rfl rfl ((op_shr (0) rfl (ev2 rfl) (ev2 rfl) (fun _ => ⟨rfl, by decide⟩)).cast (d' := .val (.int .i64 51)) (by kernel_rfl)) ?_
    refine zag (zan rfl rfl rfl) rfl rfl rfl ((op_iand rfl (ev2 rfl) (ev1 rfl)).cast (d' := .val (.int .i64 1)) (by kernel_rfl)) ?_
    refine zag (zan rfl rfl rfl) rfl rfl rfl ((zb rfl (ev2 rfl) (ev1 rfl)).cast (d' := .val (.bool false)) (by kernel_rfl)) ?_
    refine zag (zan rfl rfl rfl) rfl rfl rfl (zad (.inl rfl) (ev2 rfl)) ?_
    refine zag (zay rfl rfl rfl) rfl rfl rfl (zap rfl fo172_2 (ev1 rfl)) ?_
    refine zag (zay rfl rfl rfl) rfl rfl rfl (zav rfl tb169 (ev2 rfl) rfl rfl) ?_
    refine zag (zay rfl rfl rfl) rfl rfl rfl (zah [] [0] [] rfl (ev2 rfl) (ec (ev1 rfl) en) rfl rfl (blk0_d _) rfl rfl rfl rfl rfl rfl) ?_
    refine zag (zay rfl rfl rfl) rfl rfl rfl (op_not rfl (ev2 rfl)) ?_
    refine zag (zan rfl rfl rfl) rfl rfl rfl ((zaz rfl (ev2 rfl) (ev2 rfl)).cast (d' := .val (.bool false)) (by rfl)) ?_
    refine zab rfl rfl rfl (op_or rfl (ev1 rfl) (ev3 rfl id)) ?_
    refine zae ?_
    refine zaw rfl (fun c3 => ?_) (fun c3 => ?_)
    · refine zaf ?_
      refine zac ?_
      refine zab rfl rfl rfl (zad (.inr rfl) (ev1 rfl)) ?_
      refine zae ?_
      refine zau ?_
      refine kend0 (rs1 rfl (rv_t rfl)) rfl ?_
      have hb : opB o = false := by
        unfold opB
        simp_all [mostK, errz, eqI_dec, errOr_z]
        all_goals (first | (intros; omega) | (intros; simp_all; done))
      rw [hb]
      rfl
    · refine zak ?_
      refine zac ?_
      refine zab rfl rfl rfl ((op_add' rfl (ev1 rfl) (ev1 rfl) (fun _ => IntWalk.i64_in _ (by omega))).cast (d' := .val (.int .i64 1)) (by kernel_rfl)) ?_
      refine zab rfl rfl rfl (zad (.inl rfl) (ev1 rfl)) ?_
      refine zae ?_
      refine dloop_step ?_
      refine zaf ?_
      refine zac ?_
      refine zab rfl rfl rfl ((op_lss rfl (ev1 rfl) (ev1 rfl)).cast (d' := .val (.bool true)) (by kernel_rfl)) ?_
      refine zae ?_
      refine zaf ?_
      refine dwp_if_t rfl (rfl) ?_
      refine zak ?_
      refine zaf ?_
      refine zat ?_
      refine zaf ?_
      refine zaj 1 (by simp only [holes, List.cons_append, List.nil_append]; exact rfl) ?_
      refine zac ?_
      refine zab rfl rfl rfl (zad (.inl rfl) (ev1 rfl)) ?_
      refine zab rfl rfl rfl (op_ixwr (1) rfl av173 (ev1 rfl) (ev1 rfl) (fun _ => rfl) (fun _ => by decide) (Nat.le_of_ble_eq_true rfl)) ?_
      refine zam rfl rfl rfl (zaq 3 rfl zr172 rfl) (by simp only [upd, za, zaa]; exact rfl) ?_
      refine zab rfl rfl rfl (zad (.inr rfl) (ev1 rfl)) ?_
      refine zax rfl rfl (op_stam rfl tb172 (ev1 rfl) (ev1 rfl) rfl rfl rfl rfl) (by simp only [upd, za, zaa]; exact rfl) ?_
      refine zae ?_
      refine zaf ?_
      refine zac ?_
      refine zab rfl rfl rfl (zap rfl fo164_0 (ev1 rfl)) ?_
      refine zab rfl rfl rfl (zav rfl tb3 (ev1 rfl) rfl rfl) ?_
      refine zab rfl rfl rfl (zad (.inl rfl) (ev1 rfl)) ?_
      refine zab rfl rfl rfl ((op_shr (1) rfl (ev1 rfl) (ev1 rfl) (fun _ => ⟨rfl, by decide⟩)).cast (d' := .val (.int .i64 25)) (by kernel_rfl)) ?_
      refine zab rfl rfl rfl ((op_iand rfl (ev1 rfl) (ev1 rfl)).cast (d' := .val (.int .i64 1)) (by kernel_rfl)) ?_
      refine zab rfl rfl rfl ((zb rfl (ev1 rfl) (ev1 rfl)).cast (d' := .val (.bool true)) (by kernel_rfl)) ?_
      refine zab rfl rfl rfl (zad (.inl rfl) (ev1 rfl)) ?_
      refine zai (zar (b := true) rfl rfl rfl) rfl rfl rfl (zap rfl fo172_1 (ev1 rfl)) (by simp only [upd, za, zaa]; exact rfl) ?_
      refine zai (zar (b := true) rfl rfl rfl) rfl rfl rfl (zav rfl tb168 (ev2 rfl) rfl rfl) (by simp only [upd, za, zaa]; exact rfl) ?_
      refine zai (zar (b := true) rfl rfl rfl) rfl rfl rfl (op_ldmw rfl tb164 (ev1 rfl) rfl rfl) (by simp only [upd, za, zaa]; exact rfl) ?_
      refine zai (zar (b := true) rfl rfl rfl) rfl rfl rfl (zah [] [0] [] rfl (ev2 rfl) (ec (ev2 rfl) (ec (ev1 rfl) en)) rfl rfl (fit1_d _ _ _ _ _) rfl rfl rfl rfl rfl rfl) (by simp only [upd, za, zaa]; exact rfl) ?_
      refine zai (zar (b := true) rfl rfl rfl) rfl rfl rfl (op_not rfl (ev2 rfl)) (by simp only [upd, za, zaa]; exact rfl) ?_
      refine zab rfl rfl rfl (zaz rfl (ev1 rfl) (ev3 rfl (fun _ => rfl))) ?_
      refine zab rfl rfl rfl (zad (.inl rfl) (ev1 rfl)) ?_
      refine zag (zan rfl rfl rfl) rfl rfl rfl (zap rfl fo164_0 (ev1 rfl)) ?_
      refine zag (zan rfl rfl rfl) rfl rfl rfl (zav rfl tb3 (ev2 rfl) rfl rfl) ?_
      refine zag (zan rfl rfl rfl) rfl rfl rfl (zad (.inl rfl) (ev1 rfl)) ?_
      refine zag (zan rfl rfl rfl) rfl rfl rfl ((op_shr (1) rfl (ev2 rfl) (ev2 rfl) (fun _ => ⟨rfl, by decide⟩)).cast (d' := .val (.int .i64 25)) (by kernel_rfl)) ?_
      refine zag (zan rfl rfl rfl) rfl rfl rfl ((op_iand rfl (ev2 rfl) (ev1 rfl)).cast (d' := .val (.int .i64 1)) (by kernel_rfl)) ?_
      refine zag (zan rfl rfl rfl) rfl rfl rfl ((zb rfl (ev2 rfl) (ev1 rfl)).cast (d' := .val (.bool false)) (by kernel_rfl)) ?_
      refine zag (zan rfl rfl rfl) rfl rfl rfl (zad (.inl rfl) (ev2 rfl)) ?_
      refine zag (zay rfl rfl rfl) rfl rfl rfl (zap rfl fo172_2 (ev1 rfl)) ?_
      refine zag (zay rfl rfl rfl) rfl rfl rfl (zav rfl tb169 (ev2 rfl) rfl rfl) ?_
      refine zag (zay rfl rfl rfl) rfl rfl rfl (zah [] [0] [] rfl (ev2 rfl) (ec (ev1 rfl) en) rfl rfl (blk1_d _) rfl rfl rfl rfl rfl rfl) ?_
      refine zag (zay rfl rfl rfl) rfl rfl rfl (op_not rfl (ev2 rfl)) ?_
      refine zag (zan rfl rfl rfl) rfl rfl rfl ((zaz rfl (ev2 rfl) (ev2 rfl)).cast (d' := .val (.bool false)) (by rfl)) ?_
      refine zab rfl rfl rfl (op_or rfl (ev1 rfl) (ev3 rfl id)) ?_
      refine zae ?_
      refine zaw rfl (fun c5 => ?_) (fun c5 => ?_)
      · refine zaf ?_
        refine zac ?_
        refine zab rfl rfl rfl (zad (.inr rfl) (ev1 rfl)) ?_
        refine zae ?_
        refine zau ?_
        refine kend0 (rs1 rfl (rv_t rfl)) rfl ?_
        have hb : opB o = false := by
          unfold opB
          simp_all [mostK, errz, eqI_dec, errOr_z]
          all_goals (first | (intros; omega) | (intros; simp_all; done))
        rw [hb]
        rfl
      · refine zak ?_
        refine zac ?_
        refine zab rfl rfl rfl ((op_add' rfl (ev1 rfl) (ev1 rfl) (fun _ => IntWalk.i64_in _ (by omega))).cast (d' := .val (.int .i64 2)) (by kernel_rfl)) ?_
        refine zab rfl rfl rfl (zad (.inl rfl) (ev1 rfl)) ?_
        refine zae ?_
        refine dloop_step ?_
        refine zaf ?_
        refine zac ?_
        refine zab rfl rfl rfl ((op_lss rfl (ev1 rfl) (ev1 rfl)).cast (d' := .val (.bool true)) (by kernel_rfl)) ?_
        refine zae ?_
        refine zaf ?_
        refine dwp_if_t rfl (rfl) ?_
        refine zak ?_
        refine zaf ?_
        refine zat ?_
        refine zaf ?_
        refine zaj 1 (by simp only [holes, List.cons_append, List.nil_append]; exact rfl) ?_
        refine zac ?_
        refine zab rfl rfl rfl (zad (.inl rfl) (ev1 rfl)) ?_
        refine zab rfl rfl rfl (op_ixwr (2) rfl av173 (ev1 rfl) (ev1 rfl) (fun _ => rfl) (fun _ => by decide) (Nat.le_of_ble_eq_true rfl)) ?_
        refine zam rfl rfl rfl (zaq 4 rfl zr172 rfl) (by simp only [upd, za, zaa]; exact rfl) ?_
        refine zab rfl rfl rfl (zad (.inr rfl) (ev1 rfl)) ?_
        refine zax rfl rfl (op_stam rfl tb172 (ev1 rfl) (ev1 rfl) rfl rfl rfl rfl) (by simp only [upd, za, zaa]; exact rfl) ?_
        refine zae ?_
        refine zaf ?_
        refine zac ?_
        refine zab rfl rfl rfl (zap rfl fo164_0 (ev1 rfl)) ?_
        refine zab rfl rfl rfl (zav rfl tb3 (ev1 rfl) rfl rfl) ?_
        refine zab rfl rfl rfl (zad (.inl rfl) (ev1 rfl)) ?_
        refine zab rfl rfl rfl ((op_shr (2) rfl (ev1 rfl) (ev1 rfl) (fun _ => ⟨rfl, by decide⟩)).cast (d' := .val (.int .i64 12)) (by kernel_rfl)) ?_
        refine zab rfl rfl rfl ((op_iand rfl (ev1 rfl) (ev1 rfl)).cast (d' := .val (.int .i64 0)) (by kernel_rfl)) ?_
        refine zab rfl rfl rfl ((zb rfl (ev1 rfl) (ev1 rfl)).cast (d' := .val (.bool false)) (by kernel_rfl)) ?_
        refine zab rfl rfl rfl (zad (.inl rfl) (ev1 rfl)) ?_
        refine zag (zar (b := false) rfl rfl rfl) rfl rfl rfl (zal (d := .junk)) ?_
        refine zag (zar (b := false) rfl rfl rfl) rfl rfl rfl (zal (d := .junk)) ?_
        refine zag (zar (b := false) rfl rfl rfl) rfl rfl rfl (zal (d := .junk)) ?_
        refine zag (zar (b := false) rfl rfl rfl) rfl rfl rfl (zal (d := .val (.bool false))) ?_
        refine zag (zar (b := false) rfl rfl rfl) rfl rfl rfl (zal (d := .val (.bool false))) ?_
        refine zab rfl rfl rfl ((zaz rfl (ev1 rfl) (ev3 rfl id)).cast (d' := .val (.bool false)) (by rfl)) ?_
        refine zab rfl rfl rfl (zad (.inl rfl) (ev1 rfl)) ?_
        refine zai (zan (b := false) rfl rfl rfl) rfl rfl rfl (zap rfl fo164_0 (ev1 rfl)) (by simp only [upd, za, zaa]; exact rfl) ?_
        refine zai (zan (b := false) rfl rfl rfl) rfl rfl rfl (zav rfl tb3 (ev2 rfl) rfl rfl) (by simp only [upd, za, zaa]; exact rfl) ?_
        refine zai (zan (b := false) rfl rfl rfl) rfl rfl rfl (zad (.inl rfl) (ev1 rfl)) (by simp only [upd, za, zaa]; exact rfl) ?_
        refine zai (zan (b := false) rfl rfl rfl) rfl rfl rfl ((op_shr (2) rfl (ev2 rfl) (ev2 rfl) (fun _ => ⟨rfl, by decide⟩)).cast (d' := .val (.int .i64 12)) (by kernel_rfl)) (by simp only [upd, za, zaa]; exact rfl) ?_
        refine zai (zan (b := false) rfl rfl rfl) rfl rfl rfl ((op_iand rfl (ev2 rfl) (ev1 rfl)).cast (d' := .val (.int .i64 0)) (by kernel_rfl)) (by simp only [upd, za, zaa]; exact rfl) ?_
        refine zai (zan (b := false) rfl rfl rfl) rfl rfl rfl ((zb rfl (ev2 rfl) (ev1 rfl)).cast (d' := .val (.bool true)) (by kernel_rfl)) (by simp only [upd, za, zaa]; exact rfl) ?_
        refine zai (zan (b := false) rfl rfl rfl) rfl rfl rfl (zad (.inl rfl) (ev2 rfl)) (by simp only [upd, za, zaa]; exact rfl) ?_
        refine zai (zay (g := true) (b := true) rfl rfl rfl) rfl rfl rfl (zap rfl fo172_2 (ev1 rfl)) (by simp only [upd, za, zaa]; exact rfl) ?_
        refine zai (zay (g := true) (b := true) rfl rfl rfl) rfl rfl rfl (zav rfl tb169 (ev2 rfl) rfl rfl) (by simp only [upd, za, zaa]; exact rfl) ?_
        refine zai (zay (g := true) (b := true) rfl rfl rfl) rfl rfl rfl (zah [] [0] [] rfl (ev2 rfl) (ec (ev1 rfl) en) rfl rfl (blk2_d _) rfl rfl rfl rfl rfl rfl) (by simp only [upd, za, zaa]; exact rfl) ?_
        refine zai (zay (g := true) (b := true) rfl rfl rfl) rfl rfl rfl (op_not rfl (ev2 rfl)) (by simp only [upd, za, zaa]; exact rfl) ?_
        refine zai (zan (b := false) rfl rfl rfl) rfl rfl rfl (zaz rfl (ev2 rfl) (ev3 rfl (fun _ => rfl))) (by simp only [upd, za, zaa]; exact rfl) ?_
        refine zab rfl rfl rfl (op_or rfl (ev1 rfl) (ev3 rfl (fun _ => rfl))) ?_
        refine zae ?_
        refine zaw rfl (fun c7 => ?_) (fun c7 => ?_)
        · refine zaf ?_
          refine zac ?_
          refine zab rfl rfl rfl (zad (.inr rfl) (ev1 rfl)) ?_
          refine zae ?_
          refine zau ?_
          refine kend0 (rs1 rfl (rv_t rfl)) rfl ?_
          have hb : opB o = false := by
            unfold opB
            simp_all [mostK, errz, eqI_dec, errOr_z]
            all_goals (first | (intros; omega) | (intros; simp_all; done))
          rw [hb]
          rfl
        · refine zak ?_
          refine zac ?_
          refine zab rfl rfl rfl ((op_add' rfl (ev1 rfl) (ev1 rfl) (fun _ => IntWalk.i64_in _ (by omega))).cast (d' := .val (.int .i64 3)) (by kernel_rfl)) ?_
          refine zab rfl rfl rfl (zad (.inl rfl) (ev1 rfl)) ?_
          refine zae ?_
          refine dloop_step ?_
          refine zaf ?_
          refine zac ?_
          refine zab rfl rfl rfl ((op_lss rfl (ev1 rfl) (ev1 rfl)).cast (d' := .val (.bool true)) (by kernel_rfl)) ?_
          refine zae ?_
          refine zaf ?_
          refine dwp_if_t rfl (rfl) ?_
          refine zak ?_
          refine zaf ?_
          refine zat ?_
          refine zaf ?_
          refine zaj 1 (by simp only [holes, List.cons_append, List.nil_append]; exact rfl) ?_
          refine zac ?_
          refine zab rfl rfl rfl (zad (.inl rfl) (ev1 rfl)) ?_
          refine zab rfl rfl rfl (op_ixwr (3) rfl av173 (ev1 rfl) (ev1 rfl) (fun _ => rfl) (fun _ => by decide) (Nat.le_of_ble_eq_true rfl)) ?_
          refine zam rfl rfl rfl (zaq 5 rfl zr172 rfl) (by simp only [upd, za, zaa]; exact rfl) ?_
          refine zab rfl rfl rfl (zad (.inr rfl) (ev1 rfl)) ?_
          refine zax rfl rfl (op_stam rfl tb172 (ev1 rfl) (ev1 rfl) rfl rfl rfl rfl) (by simp only [upd, za, zaa]; exact rfl) ?_
          refine zae ?_
          refine zaf ?_
          refine zac ?_
          refine zab rfl rfl rfl (zap rfl fo164_0 (ev1 rfl)) ?_
          refine zab rfl rfl rfl (zav rfl tb3 (ev1 rfl) rfl rfl) ?_
          refine zab rfl rfl rfl (zad (.inl rfl) (ev1 rfl)) ?_
          refine zab rfl rfl rfl ((op_shr (3) rfl (ev1 rfl) (ev1 rfl) (fun _ => ⟨rfl, by decide⟩)).cast (d' := .val (.int .i64 6)) (by kernel_rfl)) ?_
          refine zab rfl rfl rfl ((op_iand rfl (ev1 rfl) (ev1 rfl)).cast (d' := .val (.int .i64 0)) (by kernel_rfl)) ?_
          refine zab rfl rfl rfl ((zb rfl (ev1 rfl) (ev1 rfl)).cast (d' := .val (.bool false)) (by kernel_rfl)) ?_
          refine zab rfl rfl rfl (zad (.inl rfl) (ev1 rfl)) ?_
          refine zag (zar (b := false) rfl rfl rfl) rfl rfl rfl (zal (d := .junk)) ?_
          refine zag (zar (b := false) rfl rfl rfl) rfl rfl rfl (zal (d := .junk)) ?_
          refine zag (zar (b := false) rfl rfl rfl) rfl rfl rfl (zal (d := .junk)) ?_
          refine zag (zar (b := false) rfl rfl rfl) rfl rfl rfl (zal (d := .val (.bool false))) ?_
          refine zag (zar (b := false) rfl rfl rfl) rfl rfl rfl (zal (d := .val (.bool false))) ?_
          refine zab rfl rfl rfl ((zaz rfl (ev1 rfl) (ev3 rfl id)).cast (d' := .val (.bool false)) (by rfl)) ?_
          refine zab rfl rfl rfl (zad (.inl rfl) (ev1 rfl)) ?_
          refine zai (zan (b := false) rfl rfl rfl) rfl rfl rfl (zap rfl fo164_0 (ev1 rfl)) (by simp only [upd, za, zaa]; exact rfl) ?_
          refine zai (zan (b := false) rfl rfl rfl) rfl rfl rfl (zav rfl tb3 (ev2 rfl) rfl rfl) (by simp only [upd, za, zaa]; exact rfl) ?_
          refine zai (zan (b := false) rfl rfl rfl) rfl rfl rfl (zad (.inl rfl) (ev1 rfl)) (by simp only [upd, za, zaa]; exact rfl) ?_
          refine zai (zan (b := false) rfl rfl rfl) rfl rfl rfl ((op_shr (3) rfl (ev2 rfl) (ev2 rfl) (fun _ => ⟨rfl, by decide⟩)).cast (d' := .val (.int .i64 6)) (by kernel_rfl)) (by simp only [upd, za, zaa]; exact rfl) ?_
          refine zai (zan (b := false) rfl rfl rfl) rfl rfl rfl ((op_iand rfl (ev2 rfl) (ev1 rfl)).cast (d' := .val (.int .i64 0)) (by kernel_rfl)) (by simp only [upd, za, zaa]; exact rfl) ?_
          refine zai (zan (b := false) rfl rfl rfl) rfl rfl rfl ((zb rfl (ev2 rfl) (ev1 rfl)).cast (d' := .val (.bool true)) (by kernel_rfl)) (by simp only [upd, za, zaa]; exact rfl) ?_
          refine zai (zan (b := false) rfl rfl rfl) rfl rfl rfl (zad (.inl rfl) (ev2 rfl)) (by simp only [upd, za, zaa]; exact rfl) ?_
          refine zai (zay (g := true) (b := true) rfl rfl rfl) rfl rfl rfl (zap rfl fo172_2 (ev1 rfl)) (by simp only [upd, za, zaa]; exact rfl) ?_
          refine zai (zay (g := true) (b := true) rfl rfl rfl) rfl rfl rfl (zav rfl tb169 (ev2 rfl) rfl rfl) (by simp only [upd, za, zaa]; exact rfl) ?_
          refine zai (zay (g := true) (b := true) rfl rfl rfl) rfl rfl rfl (zah [] [0] [] rfl (ev2 rfl) (ec (ev1 rfl) en) rfl rfl (blk3_d _) rfl rfl rfl rfl rfl rfl) (by simp only [upd, za, zaa]; exact rfl) ?_
          refine zai (zay (g := true) (b := true) rfl rfl rfl) rfl rfl rfl (op_not rfl (ev2 rfl)) (by simp only [upd, za, zaa]; exact rfl) ?_
          refine zai (zan (b := false) rfl rfl rfl) rfl rfl rfl (zaz rfl (ev2 rfl) (ev3 rfl (fun _ => rfl))) (by simp only [upd, za, zaa]; exact rfl) ?_
          refine zab rfl rfl rfl (op_or rfl (ev1 rfl) (ev3 rfl (fun _ => rfl))) ?_
          refine zae ?_
          refine zaw rfl (fun c9 => ?_) (fun c9 => ?_)
          · refine zaf ?_
            refine zac ?_
            refine zab rfl rfl rfl (zad (.inr rfl) (ev1 rfl)) ?_
            refine zae ?_
            refine zau ?_
            refine kend0 (rs1 rfl (rv_t rfl)) rfl ?_
            have hb : opB o = false := by
              unfold opB
              simp_all [mostK, errz, eqI_dec, errOr_z]
              all_goals (first | (intros; omega) | (intros; simp_all; done))
            rw [hb]
            rfl
          · refine zak ?_
            refine zac ?_
            refine zab rfl rfl rfl ((op_add' rfl (ev1 rfl) (ev1 rfl) (fun _ => IntWalk.i64_in _ (by omega))).cast (d' := .val (.int .i64 4)) (by kernel_rfl)) ?_
            refine zab rfl rfl rfl (zad (.inl rfl) (ev1 rfl)) ?_
            refine zae ?_
            refine dloop_step ?_
            refine zaf ?_
            refine zac ?_
            refine zab rfl rfl rfl ((op_lss rfl (ev1 rfl) (ev1 rfl)).cast (d' := .val (.bool true)) (by kernel_rfl)) ?_
            refine zae ?_
            refine zaf ?_
            refine dwp_if_t rfl (rfl) ?_
            refine zak ?_
            refine zaf ?_
            refine zat ?_
            refine zaf ?_
            refine zaj 1 (by simp only [holes, List.cons_append, List.nil_append]; exact rfl) ?_
            refine zac ?_
            refine zab rfl rfl rfl (zad (.inl rfl) (ev1 rfl)) ?_
            refine zab rfl rfl rfl (op_ixwr (4) rfl av173 (ev1 rfl) (ev1 rfl) (fun _ => rfl) (fun _ => by decide) (Nat.le_of_ble_eq_true rfl)) ?_
            refine zam rfl rfl rfl (zaq 6 rfl zr172 rfl) (by simp only [upd, za, zaa]; exact rfl) ?_
            refine zab rfl rfl rfl (zad (.inr rfl) (ev1 rfl)) ?_
            refine zax rfl rfl (op_stam rfl tb172 (ev1 rfl) (ev1 rfl) rfl rfl rfl rfl) (by simp only [upd, za, zaa]; exact rfl) ?_
            refine zae ?_
            refine zaf ?_
            refine zac ?_
            refine zab rfl rfl rfl (zap rfl fo164_0 (ev1 rfl)) ?_
            refine zab rfl rfl rfl (zav rfl tb3 (ev1 rfl) rfl rfl) ?_
            refine zab rfl rfl rfl (zad (.inl rfl) (ev1 rfl)) ?_
            refine zab rfl rfl rfl ((op_shr (4) rfl (ev1 rfl) (ev1 rfl) (fun _ => ⟨rfl, by decide⟩)).cast (d' := .val (.int .i64 3)) (by kernel_rfl)) ?_
            refine zab rfl rfl rfl ((op_iand rfl (ev1 rfl) (ev1 rfl)).cast (d' := .val (.int .i64 1)) (by kernel_rfl)) ?_
            refine zab rfl rfl rfl ((zb rfl (ev1 rfl) (ev1 rfl)).cast (d' := .val (.bool true)) (by kernel_rfl)) ?_
            refine zab rfl rfl rfl (zad (.inl rfl) (ev1 rfl)) ?_
            refine zai (zar (b := true) rfl rfl rfl) rfl rfl rfl (zap rfl fo172_1 (ev1 rfl)) (by simp only [upd, za, zaa]; exact rfl) ?_
            refine zai (zar (b := true) rfl rfl rfl) rfl rfl rfl (zav rfl tb168 (ev2 rfl) rfl rfl) (by simp only [upd, za, zaa]; exact rfl) ?_
            refine zai (zar (b := true) rfl rfl rfl) rfl rfl rfl (op_ldmw rfl tb164 (ev1 rfl) rfl rfl) (by simp only [upd, za, zaa]; exact rfl) ?_
            refine zai (zar (b := true) rfl rfl rfl) rfl rfl rfl (zah [] [0] [] rfl (ev2 rfl) (ec (ev2 rfl) (ec (ev1 rfl) en)) rfl rfl (fit4_d _ _ _ _ _) rfl rfl rfl rfl rfl rfl) (by simp only [upd, za, zaa]; exact rfl) ?_
            refine zai (zar (b := true) rfl rfl rfl) rfl rfl rfl (op_not rfl (ev2 rfl)) (by simp only [upd, za, zaa]; exact rfl) ?_
            refine zab rfl rfl rfl (zaz rfl (ev1 rfl) (ev3 rfl (fun _ => rfl))) ?_
            refine zab rfl rfl rfl (zad (.inl rfl) (ev1 rfl)) ?_
            refine zag (zan rfl rfl rfl) rfl rfl rfl (zap rfl fo164_0 (ev1 rfl)) ?_
            refine zag (zan rfl rfl rfl) rfl rfl rfl (zav rfl tb3 (ev2 rfl) rfl rfl) ?_
            refine zag (zan rfl rfl rfl) rfl rfl rfl (zad (.inl rfl) (ev1 rfl)) ?_
            refine zag (zan rfl rfl rfl) rfl rfl rfl ((op_shr (4) rfl (ev2 rfl) (ev2 rfl) (fun _ => ⟨rfl, by decide⟩)).cast (d' := .val (.int .i64 3)) (by kernel_rfl)) ?_
            refine zag (zan rfl rfl rfl) rfl rfl rfl ((op_iand rfl (ev2 rfl) (ev1 rfl)).cast (d' := .val (.int .i64 1)) (by kernel_rfl)) ?_
            refine zag (zan rfl rfl rfl) rfl rfl rfl ((zb rfl (ev2 rfl) (ev1 rfl)).cast (d' := .val (.bool false)) (by kernel_rfl)) ?_
            refine zag (zan rfl rfl rfl) rfl rfl rfl (zad (.inl rfl) (ev2 rfl)) ?_
            refine zag (zay rfl rfl rfl) rfl rfl rfl (zap rfl fo172_2 (ev1 rfl)) ?_
            refine zag (zay rfl rfl rfl) rfl rfl rfl (zav rfl tb169 (ev2 rfl) rfl rfl) ?_
            refine zag (zay rfl rfl rfl) rfl rfl rfl (zah [] [0] [] rfl (ev2 rfl) (ec (ev1 rfl) en) rfl rfl (blk4_d _) rfl rfl rfl rfl rfl rfl) ?_
            refine zag (zay rfl rfl rfl) rfl rfl rfl (op_not rfl (ev2 rfl)) ?_
            refine zag (zan rfl rfl rfl) rfl rfl rfl ((zaz rfl (ev2 rfl) (ev2 rfl)).cast (d' := .val (.bool false)) (by rfl)) ?_
            refine zab rfl rfl rfl (op_or rfl (ev1 rfl) (ev3 rfl id)) ?_
            refine zae ?_
            refine zaw rfl (fun c11 => ?_) (fun c11 => ?_)
            · refine zaf ?_
              refine zac ?_
              refine zab rfl rfl rfl (zad (.inr rfl) (ev1 rfl)) ?_
              refine zae ?_
              refine zau ?_
              refine kend0 (rs1 rfl (rv_t rfl)) rfl ?_
              have hb : opB o = false := by
                unfold opB
                simp_all [mostK, errz, eqI_dec, errOr_z]
                all_goals (first | (intros; omega) | (intros; simp_all; done))
              rw [hb]
              rfl
            · refine zak ?_
              refine zac ?_
              refine zab rfl rfl rfl ((op_add' rfl (ev1 rfl) (ev1 rfl) (fun _ => IntWalk.i64_in _ (by omega))).cast (d' := .val (.int .i64 5)) (by kernel_rfl)) ?_
              refine zab rfl rfl rfl (zad (.inl rfl) (ev1 rfl)) ?_
              refine zae ?_
              refine dloop_step ?_
              refine zaf ?_
              refine zac ?_
              refine zab rfl rfl rfl ((op_lss rfl (ev1 rfl) (ev1 rfl)).cast (d' := .val (.bool true)) (by kernel_rfl)) ?_
              refine zae ?_
              refine zaf ?_
              refine dwp_if_t rfl (rfl) ?_
              refine zak ?_
              refine zaf ?_
              refine zat ?_
              refine zaf ?_
              refine zaj 1 (by simp only [holes, List.cons_append, List.nil_append]; exact rfl) ?_
              refine zac ?_
              refine zab rfl rfl rfl (zad (.inl rfl) (ev1 rfl)) ?_
              refine zab rfl rfl rfl (op_ixwr (5) rfl av173 (ev1 rfl) (ev1 rfl) (fun _ => rfl) (fun _ => by decide) (Nat.le_of_ble_eq_true rfl)) ?_
              refine zam rfl rfl rfl (zaq 7 rfl zr172 rfl) (by simp only [upd, za, zaa]; exact rfl) ?_
              refine zab rfl rfl rfl (zad (.inr rfl) (ev1 rfl)) ?_
              refine zax rfl rfl (op_stam rfl tb172 (ev1 rfl) (ev1 rfl) rfl rfl rfl rfl) (by simp only [upd, za, zaa]; exact rfl) ?_
              refine zae ?_
              refine zaf ?_
              refine zac ?_
              refine zab rfl rfl rfl (zap rfl fo164_0 (ev1 rfl)) ?_
              refine zab rfl rfl rfl (zav rfl tb3 (ev1 rfl) rfl rfl) ?_
              refine zab rfl rfl rfl (zad (.inl rfl) (ev1 rfl)) ?_
              refine zab rfl rfl rfl ((op_shr (5) rfl (ev1 rfl) (ev1 rfl) (fun _ => ⟨rfl, by decide⟩)).cast (d' := .val (.int .i64 1)) (by kernel_rfl)) ?_
              refine zab rfl rfl rfl ((op_iand rfl (ev1 rfl) (ev1 rfl)).cast (d' := .val (.int .i64 1)) (by kernel_rfl)) ?_
              refine zab rfl rfl rfl ((zb rfl (ev1 rfl) (ev1 rfl)).cast (d' := .val (.bool true)) (by kernel_rfl)) ?_
              refine zab rfl rfl rfl (zad (.inl rfl) (ev1 rfl)) ?_
              refine zai (zar (b := true) rfl rfl rfl) rfl rfl rfl (zap rfl fo172_1 (ev1 rfl)) (by simp only [upd, za, zaa]; exact rfl) ?_
              refine zai (zar (b := true) rfl rfl rfl) rfl rfl rfl (zav rfl tb168 (ev2 rfl) rfl rfl) (by simp only [upd, za, zaa]; exact rfl) ?_
              refine zai (zar (b := true) rfl rfl rfl) rfl rfl rfl (op_ldmw rfl tb164 (ev1 rfl) rfl rfl) (by simp only [upd, za, zaa]; exact rfl) ?_
              refine zai (zar (b := true) rfl rfl rfl) rfl rfl rfl (zah [] [0] [] rfl (ev2 rfl) (ec (ev2 rfl) (ec (ev1 rfl) en)) rfl rfl (fit5_d _ _ _ _ _) rfl rfl rfl rfl rfl rfl) (by simp only [upd, za, zaa]; exact rfl) ?_
              refine zai (zar (b := true) rfl rfl rfl) rfl rfl rfl (op_not rfl (ev2 rfl)) (by simp only [upd, za, zaa]; exact rfl) ?_
              refine zab rfl rfl rfl (zaz rfl (ev1 rfl) (ev3 rfl (fun _ => rfl))) ?_
              refine zab rfl rfl rfl (zad (.inl rfl) (ev1 rfl)) ?_
              refine zag (zan rfl rfl rfl) rfl rfl rfl (zap rfl fo164_0 (ev1 rfl)) ?_
              refine zag (zan rfl rfl rfl) rfl rfl rfl (zav rfl tb3 (ev2 rfl) rfl rfl) ?_
              refine zag (zan rfl rfl rfl) rfl rfl rfl (zad (.inl rfl) (ev1 rfl)) ?_
              refine zag (zan rfl rfl rfl) rfl rfl rfl ((op_shr (5) rfl (ev2 rfl) (ev2 rfl) (fun _ => ⟨rfl, by decide⟩)).cast (d' := .val (.int .i64 1)) (by kernel_rfl)) ?_
              refine zag (zan rfl rfl rfl) rfl rfl rfl ((op_iand rfl (ev2 rfl) (ev1 rfl)).cast (d' := .val (.int .i64 1)) (by kernel_rfl)) ?_
              refine zag (zan rfl rfl rfl) rfl rfl rfl ((zb rfl (ev2 rfl) (ev1 rfl)).cast (d' := .val (.bool false)) (by kernel_rfl)) ?_
              refine zag (zan rfl rfl rfl) rfl rfl rfl (zad (.inl rfl) (ev2 rfl)) ?_
              refine zag (zay rfl rfl rfl) rfl rfl rfl (zap rfl fo172_2 (ev1 rfl)) ?_
              refine zag (zay rfl rfl rfl) rfl rfl rfl (zav rfl tb169 (ev2 rfl) rfl rfl) ?_
              refine zag (zay rfl rfl rfl) rfl rfl rfl (zah [] [0] [] rfl (ev2 rfl) (ec (ev1 rfl) en) rfl rfl (blk5_d _) rfl rfl rfl rfl rfl rfl) ?_
              refine zag (zay rfl rfl rfl) rfl rfl rfl (op_not rfl (ev2 rfl)) ?_
              refine zag (zan rfl rfl rfl) rfl rfl rfl ((zaz rfl (ev2 rfl) (ev2 rfl)).cast (d' := .val (.bool false)) (by rfl)) ?_
              refine zab rfl rfl rfl (op_or rfl (ev1 rfl) (ev3 rfl id)) ?_
              refine zae ?_
              refine zaw rfl (fun c13 => ?_) (fun c13 => ?_)
              · refine zaf ?_
                refine zac ?_
                refine zab rfl rfl rfl (zad (.inr rfl) (ev1 rfl)) ?_
                refine zae ?_
                refine zau ?_
                refine kend0 (rs1 rfl (rv_t rfl)) rfl ?_
                have hb : opB o = false := by
                  unfold opB
                  simp_all [mostK, errz, eqI_dec, errOr_z]
                  all_goals (first | (intros; omega) | (intros; simp_all; done))
                rw [hb]
                rfl
              · refine zak ?_
                refine zac ?_
                refine zab rfl rfl rfl ((op_add' rfl (ev1 rfl) (ev1 rfl) (fun _ => IntWalk.i64_in _ (by omega))).cast (d' := .val (.int .i64 6)) (by kernel_rfl)) ?_
                refine zab rfl rfl rfl (zad (.inl rfl) (ev1 rfl)) ?_
                refine zae ?_
                refine dloop_step ?_
                refine zaf ?_
                refine zac ?_
                refine zab rfl rfl rfl ((op_lss rfl (ev1 rfl) (ev1 rfl)).cast (d' := .val (.bool true)) (by kernel_rfl)) ?_
                refine zae ?_
                refine zaf ?_
                refine dwp_if_t rfl (rfl) ?_
                refine zak ?_
                refine zaf ?_
                refine zat ?_
                refine zaf ?_
                refine zaj 1 (by simp only [holes, List.cons_append, List.nil_append]; exact rfl) ?_
                refine zac ?_
                refine zab rfl rfl rfl (zad (.inl rfl) (ev1 rfl)) ?_
                refine zab rfl rfl rfl (op_ixwr (6) rfl av173 (ev1 rfl) (ev1 rfl) (fun _ => rfl) (fun _ => by decide) (Nat.le_of_ble_eq_true rfl)) ?_
                refine zam rfl rfl rfl (zaq 8 rfl zr172 rfl) (by simp only [upd, za, zaa]; exact rfl) ?_
                refine zab rfl rfl rfl (zad (.inr rfl) (ev1 rfl)) ?_
                refine zax rfl rfl (op_stam rfl tb172 (ev1 rfl) (ev1 rfl) rfl rfl rfl rfl) (by simp only [upd, za, zaa]; exact rfl) ?_
                refine zae ?_
                refine zaf ?_
                refine zac ?_
                refine zab rfl rfl rfl (zap rfl fo164_0 (ev1 rfl)) ?_
                refine zab rfl rfl rfl (zav rfl tb3 (ev1 rfl) rfl rfl) ?_
                refine zab rfl rfl rfl (zad (.inl rfl) (ev1 rfl)) ?_
                refine zab rfl rfl rfl ((op_shr (6) rfl (ev1 rfl) (ev1 rfl) (fun _ => ⟨rfl, by decide⟩)).cast (d' := .val (.int .i64 0)) (by kernel_rfl)) ?_
                refine zab rfl rfl rfl ((op_iand rfl (ev1 rfl) (ev1 rfl)).cast (d' := .val (.int .i64 0)) (by kernel_rfl)) ?_
                refine zab rfl rfl rfl ((zb rfl (ev1 rfl) (ev1 rfl)).cast (d' := .val (.bool false)) (by kernel_rfl)) ?_
                refine zab rfl rfl rfl (zad (.inl rfl) (ev1 rfl)) ?_
                refine zag (zar (b := false) rfl rfl rfl) rfl rfl rfl (zal (d := .junk)) ?_
                refine zag (zar (b := false) rfl rfl rfl) rfl rfl rfl (zal (d := .junk)) ?_
                refine zag (zar (b := false) rfl rfl rfl) rfl rfl rfl (zal (d := .junk)) ?_
                refine zag (zar (b := false) rfl rfl rfl) rfl rfl rfl (zal (d := .val (.bool false))) ?_
                refine zag (zar (b := false) rfl rfl rfl) rfl rfl rfl (zal (d := .val (.bool false))) ?_
                refine zab rfl rfl rfl ((zaz rfl (ev1 rfl) (ev3 rfl id)).cast (d' := .val (.bool false)) (by rfl)) ?_
                refine zab rfl rfl rfl (zad (.inl rfl) (ev1 rfl)) ?_
                refine zai (zan (b := false) rfl rfl rfl) rfl rfl rfl (zap rfl fo164_0 (ev1 rfl)) (by simp only [upd, za, zaa]; exact rfl) ?_
                refine zai (zan (b := false) rfl rfl rfl) rfl rfl rfl (zav rfl tb3 (ev2 rfl) rfl rfl) (by simp only [upd, za, zaa]; exact rfl) ?_
                refine zai (zan (b := false) rfl rfl rfl) rfl rfl rfl (zad (.inl rfl) (ev1 rfl)) (by simp only [upd, za, zaa]; exact rfl) ?_
                refine zai (zan (b := false) rfl rfl rfl) rfl rfl rfl ((op_shr (6) rfl (ev2 rfl) (ev2 rfl) (fun _ => ⟨rfl, by decide⟩)).cast (d' := .val (.int .i64 0)) (by kernel_rfl)) (by simp only [upd, za, zaa]; exact rfl) ?_
                refine zai (zan (b := false) rfl rfl rfl) rfl rfl rfl ((op_iand rfl (ev2 rfl) (ev1 rfl)).cast (d' := .val (.int .i64 0)) (by kernel_rfl)) (by simp only [upd, za, zaa]; exact rfl) ?_
                refine zai (zan (b := false) rfl rfl rfl) rfl rfl rfl ((zb rfl (ev2 rfl) (ev1 rfl)).cast (d' := .val (.bool true)) (by kernel_rfl)) (by simp only [upd, za, zaa]; exact rfl) ?_
                refine zai (zan (b := false) rfl rfl rfl) rfl rfl rfl (zad (.inl rfl) (ev2 rfl)) (by simp only [upd, za, zaa]; exact rfl) ?_
                refine zai (zay (g := true) (b := true) rfl rfl rfl) rfl rfl rfl (zap rfl fo172_2 (ev1 rfl)) (by simp only [upd, za, zaa]; exact rfl) ?_
                refine zai (zay (g := true) (b := true) rfl rfl rfl) rfl rfl rfl (zav rfl tb169 (ev2 rfl) rfl rfl) (by simp only [upd, za, zaa]; exact rfl) ?_
                refine zai (zay (g := true) (b := true) rfl rfl rfl) rfl rfl rfl (zah [] [0] [] rfl (ev2 rfl) (ec (ev1 rfl) en) rfl rfl (blk6_d _) rfl rfl rfl rfl rfl rfl) (by simp only [upd, za, zaa]; exact rfl) ?_
                refine zai (zay (g := true) (b := true) rfl rfl rfl) rfl rfl rfl (op_not rfl (ev2 rfl)) (by simp only [upd, za, zaa]; exact rfl) ?_
                refine zai (zan (b := false) rfl rfl rfl) rfl rfl rfl (zaz rfl (ev2 rfl) (ev3 rfl (fun _ => rfl))) (by simp only [upd, za, zaa]; exact rfl) ?_
                refine zab rfl rfl rfl (op_or rfl (ev1 rfl) (ev3 rfl (fun _ => rfl))) ?_
                refine zae ?_
                refine zaw rfl (fun c15 => ?_) (fun c15 => ?_)
                · refine zaf ?_
                  refine zac ?_
                  refine zab rfl rfl rfl (zad (.inr rfl) (ev1 rfl)) ?_
                  refine zae ?_
                  refine zau ?_
                  refine kend0 (rs1 rfl (rv_t rfl)) rfl ?_
                  have hb : opB o = false := by
                    unfold opB
                    simp_all [mostK, errz, eqI_dec, errOr_z]
                    all_goals (first | (intros; omega) | (intros; simp_all; done))
                  rw [hb]
                  rfl
                · refine zak ?_
                  refine zac ?_
                  refine zab rfl rfl rfl ((op_add' rfl (ev1 rfl) (ev1 rfl) (fun _ => IntWalk.i64_in _ (by omega))).cast (d' := .val (.int .i64 7)) (by kernel_rfl)) ?_
                  refine zab rfl rfl rfl (zad (.inl rfl) (ev1 rfl)) ?_
                  refine zae ?_
                  refine dloop_step ?_
                  refine zaf ?_
                  refine zac ?_
                  refine zab rfl rfl rfl ((op_lss rfl (ev1 rfl) (ev1 rfl)).cast (d' := .val (.bool true)) (by kernel_rfl)) ?_
                  refine zae ?_
                  refine zaf ?_
                  refine dwp_if_t rfl (rfl) ?_
                  refine zak ?_
                  refine zaf ?_
                  refine zat ?_
                  refine zaf ?_
                  refine zaj 1 (by simp only [holes, List.cons_append, List.nil_append]; exact rfl) ?_
                  refine zac ?_
                  refine zab rfl rfl rfl (zad (.inl rfl) (ev1 rfl)) ?_
                  refine zab rfl rfl rfl (op_ixwr (7) rfl av173 (ev1 rfl) (ev1 rfl) (fun _ => rfl) (fun _ => by decide) (Nat.le_of_ble_eq_true rfl)) ?_
                  refine zam rfl rfl rfl (zaq 9 rfl zr172 rfl) (by simp only [upd, za, zaa]; exact rfl) ?_
                  refine zab rfl rfl rfl (zad (.inr rfl) (ev1 rfl)) ?_
                  refine zax rfl rfl (op_stam rfl tb172 (ev1 rfl) (ev1 rfl) rfl rfl rfl rfl) (by simp only [upd, za, zaa]; exact rfl) ?_
                  refine zae ?_
                  refine zaf ?_
                  refine zac ?_
                  refine zab rfl rfl rfl (zap rfl fo164_0 (ev1 rfl)) ?_
                  refine zab rfl rfl rfl (zav rfl tb3 (ev1 rfl) rfl rfl) ?_
                  refine zab rfl rfl rfl (zad (.inl rfl) (ev1 rfl)) ?_
                  refine zab rfl rfl rfl ((op_shr (7) rfl (ev1 rfl) (ev1 rfl) (fun _ => ⟨rfl, by decide⟩)).cast (d' := .val (.int .i64 0)) (by kernel_rfl)) ?_
                  refine zab rfl rfl rfl ((op_iand rfl (ev1 rfl) (ev1 rfl)).cast (d' := .val (.int .i64 0)) (by kernel_rfl)) ?_
                  refine zab rfl rfl rfl ((zb rfl (ev1 rfl) (ev1 rfl)).cast (d' := .val (.bool false)) (by kernel_rfl)) ?_
                  refine zab rfl rfl rfl (zad (.inl rfl) (ev1 rfl)) ?_
                  refine zag (zar (b := false) rfl rfl rfl) rfl rfl rfl (zal (d := .junk)) ?_
                  refine zag (zar (b := false) rfl rfl rfl) rfl rfl rfl (zal (d := .junk)) ?_
                  refine zag (zar (b := false) rfl rfl rfl) rfl rfl rfl (zal (d := .junk)) ?_
                  refine zag (zar (b := false) rfl rfl rfl) rfl rfl rfl (zal (d := .val (.bool false))) ?_
                  refine zag (zar (b := false) rfl rfl rfl) rfl rfl rfl (zal (d := .val (.bool false))) ?_
                  refine zab rfl rfl rfl ((zaz rfl (ev1 rfl) (ev3 rfl id)).cast (d' := .val (.bool false)) (by rfl)) ?_
                  refine zab rfl rfl rfl (zad (.inl rfl) (ev1 rfl)) ?_
                  refine zai (zan (b := false) rfl rfl rfl) rfl rfl rfl (zap rfl fo164_0 (ev1 rfl)) (by simp only [upd, za, zaa]; exact rfl) ?_
                  refine zai (zan (b := false) rfl rfl rfl) rfl rfl rfl (zav rfl tb3 (ev2 rfl) rfl rfl) (by simp only [upd, za, zaa]; exact rfl) ?_
                  refine zai (zan (b := false) rfl rfl rfl) rfl rfl rfl (zad (.inl rfl) (ev1 rfl)) (by simp only [upd, za, zaa]; exact rfl) ?_
                  refine zai (zan (b := false) rfl rfl rfl) rfl rfl rfl ((op_shr (7) rfl (ev2 rfl) (ev2 rfl) (fun _ => ⟨rfl, by decide⟩)).cast (d' := .val (.int .i64 0)) (by kernel_rfl)) (by simp only [upd, za, zaa]; exact rfl) ?_
                  refine zai (zan (b := false) rfl rfl rfl) rfl rfl rfl ((op_iand rfl (ev2 rfl) (ev1 rfl)).cast (d' := .val (.int .i64 0)) (by kernel_rfl)) (by simp only [upd, za, zaa]; exact rfl) ?_
                  refine zai (zan (b := false) rfl rfl rfl) rfl rfl rfl ((zb rfl (ev2 rfl) (ev1 rfl)).cast (d' := .val (.bool true)) (by kernel_rfl)) (by simp only [upd, za, zaa]; exact rfl) ?_
                  refine zai (zan (b := false) rfl rfl rfl) rfl rfl rfl (zad (.inl rfl) (ev2 rfl)) (by simp only [upd, za, zaa]; exact rfl) ?_
                  refine zai (zay (g := true) (b := true) rfl rfl rfl) rfl rfl rfl (zap rfl fo172_2 (ev1 rfl)) (by simp only [upd, za, zaa]; exact rfl) ?_
                  refine zai (zay (g := true) (b := true) rfl rfl rfl) rfl rfl rfl (zav rfl tb169 (ev2 rfl) rfl rfl) (by simp only [upd, za, zaa]; exact rfl) ?_
                  refine zai (zay (g := true) (b := true) rfl rfl rfl) rfl rfl rfl (zah [] [0] [] rfl (ev2 rfl) (ec (ev1 rfl) en) rfl rfl (blk7_d _) rfl rfl rfl rfl rfl rfl) (by simp only [upd, za, zaa]; exact rfl) ?_
                  refine zai (zay (g := true) (b := true) rfl rfl rfl) rfl rfl rfl (op_not rfl (ev2 rfl)) (by simp only [upd, za, zaa]; exact rfl) ?_
                  refine zai (zan (b := false) rfl rfl rfl) rfl rfl rfl (zaz rfl (ev2 rfl) (ev3 rfl (fun _ => rfl))) (by simp only [upd, za, zaa]; exact rfl) ?_
                  refine zab rfl rfl rfl (op_or rfl (ev1 rfl) (ev3 rfl (fun _ => rfl))) ?_
                  refine zae ?_
                  refine zaw rfl (fun c17 => ?_) (fun c17 => ?_)
                  · refine zaf ?_
                    refine zac ?_
                    refine zab rfl rfl rfl (zad (.inr rfl) (ev1 rfl)) ?_
                    refine zae ?_
                    refine zau ?_
                    refine kend0 (rs1 rfl (rv_t rfl)) rfl ?_
                    have hb : opB o = false := by
                      unfold opB
                      simp_all [mostK, errz, eqI_dec, errOr_z]
                      all_goals (first | (intros; omega) | (intros; simp_all; done))
                    rw [hb]
                    rfl
                  · refine zak ?_
                    refine zac ?_
                    refine zab rfl rfl rfl ((op_add' rfl (ev1 rfl) (ev1 rfl) (fun _ => IntWalk.i64_in _ (by omega))).cast (d' := .val (.int .i64 8)) (by kernel_rfl)) ?_
                    refine zab rfl rfl rfl (zad (.inl rfl) (ev1 rfl)) ?_
                    refine zae ?_
                    refine dloop_step ?_
                    refine zaf ?_
                    refine zac ?_
                    refine zab rfl rfl rfl ((op_lss rfl (ev1 rfl) (ev1 rfl)).cast (d' := .val (.bool false)) (by kernel_rfl)) ?_
                    refine zae ?_
                    refine zaf ?_
                    refine dwp_if_f rfl (rfl) ?_
                    refine dwp_exit ?_
                    refine zaf ?_
                    refine zac ?_
                    refine zab rfl rfl rfl (zad (.inr rfl) (ev1 rfl)) ?_
                    refine zae ?_
                    refine zau ?_
                    refine kend0 (rs1 rfl (rv_t rfl)) rfl ?_
                    have hb : opB o = true := by
                      unfold opB
                      simp_all [mostK, errz, eqI_dec, errOr_z]
                      all_goals (first | (intros; omega) | (intros; simp_all; done))
                    rw [hb]
                    rfl
end Go.Proofs.YtnjnhghafjlmbaaGreat
