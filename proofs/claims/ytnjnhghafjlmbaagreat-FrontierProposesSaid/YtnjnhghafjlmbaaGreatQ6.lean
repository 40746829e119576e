/- which operations may be, kind by kind; the document: frontiers; logs: which may be; times that are proposed; the layer does something; the law of frontiers that rise; arguments that are opened. No condition. -/
import Derived.Test.YtnjnhghafjlmbaaGreatQ5
import Derived.Test.YtnjnhghafjlmbaaGreatRows
import Derived.Test.YtnjnhghafjlmbaaGreatProg
import Derived.OpenShut
import Derived.ChangeArms
import Derived.DataReads
import Derived.Below
import Derived.Deep.Slices
import Derived.JoinedOf
import Derived.JoinedAt
import Derived.Lib.SmallJoins
import Derived.Carry
import Derived.ProofKit
import Derived.RowKit3
import Derived.WalkKit
import Derived.Laws.AppendOwn
import Derived.RangeFuncRecord
import Derived.RangeFuncLeaves
import Derived.OrdersIn
import Derived.Deep.MidRow
import Derived.Laws.MakeOwn
import Derived.IntWalk
import Derived.Laws.OwnMore
import Derived.OwnWalk
import Derived.Recover
import Derived.RangeFuncIn
import Derived.Laws.StructEq
import Derived.LaidMore
import Derived.Handed
import Derived.LaidHandle
import Derived.Stop.Joined
import Derived.Laws.IdiomCopy
import Derived.Laws.Pointers
import Derived.Laws.LoneSync
namespace Go.Proofs.YtnjnhghafjlmbaaGreat
set_option linter.unusedVariables false
set_option linter.unusedSimpArgs false
open Go.RowKit
set_option maxRecDepth 4000 in
set_option maxHeartbeats 1000000 in
theorem opc_6 (o : OpM) (hk : o.kd = 6) : DFun Tryz.prog 92 [.agg (opD o)] [] (.val (.int .i64 (errOr (opB o) 220))) [] := by
  refine zba (N := 54) 0 (by kernel_rfl) Tryz.func92 rfl rfl rfl (by simp only [fr0, Nat.zero_add, Nat.reduceAdd]; exact rfl) rfl fun s0 hs0 => ?_
  refine zaf ?_
  refine zaj 1 (by simp only [holes, List.cons_append, List.nil_append]; exact rfl) ?_
  refine zac ?_
  refine zam rfl rfl rfl (op_boxam 0 rfl (ev1 rfl) rfl) (by simp only [upd, za, zaa]; exact rfl) ?_
  refine zab rfl rfl rfl (zad (.inr rfl) (ev1 rfl)) ?_
  refine zae ?_
  refine zaf ?_
  refine zaj 1 (by simp only [holes, List.cons_append, List.nil_append]; exact rfl) ?_
  refine zac ?_
  refine zab rfl rfl rfl (zap rfl fo68_1 (ev1 rfl)) ?_
  refine zab rfl rfl rfl ((zav rfl tb3 (ev1 rfl) rfl rfl : DOp _ _ _ _ _ _ (.val (.int .i64 o.kd)) _).cast (d' := .val (.int .i64 6)) (by rw [hk])) ?_
  refine zab rfl rfl rfl (zah [] [] [] rfl (ev1 rfl) (ec (ev1 rfl) en) rfl rfl (kindOf_6) rfl rfl rfl rfl rfl rfl) ?_
  refine zab rfl rfl rfl (zad (.inl rfl) (ev1 rfl)) ?_
  refine zab rfl rfl rfl (op_ext rfl (ev1 rfl) rfl) ?_
  refine zab rfl rfl rfl (op_ext rfl (ev1 rfl) rfl) ?_
  refine zam rfl rfl rfl (zaq 1 rfl zr164 rfl) (by simp only [upd, za, zaa]; exact rfl) ?_
  refine zax rfl rfl (op_stam rfl tb164 (ev1 rfl) (ev1 rfl) rfl rfl rfl rfl) (by simp only [upd, za, zaa]; exact rfl) ?_
  refine zab rfl rfl rfl (zad (.inr rfl) (ev1 rfl)) ?_
  refine zae ?_
  refine zaf ?_
  refine zaf ?_
  refine zac ?_
  refine zab rfl rfl rfl (zad (.inl rfl) (ev1 rfl)) ?_
  refine zab rfl rfl rfl ((op_not rfl (ev1 rfl)).cast (d' := .val (.bool false)) (by kernel_rfl)) ?_
  refine zab rfl rfl rfl (zad (.inl rfl) (ev1 rfl)) ?_
  refine zai (zan (b := false) rfl rfl rfl) rfl rfl rfl (zap rfl fo68_0 (ev1 rfl)) (by simp only [upd, za, zaa]; exact rfl) ?_
  refine zai (zan (b := false) rfl rfl rfl) rfl rfl rfl (op_ldmv (R := [_, _, _]) rfl tb61 (ev2 rfl) rfl rfl rfl) (by simp only [upd, za, zaa]; exact rfl) ?_
  refine zai (zan (b := false) rfl rfl rfl) rfl rfl rfl (zah [] [] [] rfl (ev1 rfl) (ec (ev2 rfl) en) rfl rfl (idCheck_d _) rfl rfl rfl rfl rfl rfl) (by simp only [upd, za, zaa]; exact rfl) ?_
  refine zai (zan (b := false) rfl rfl rfl) rfl rfl rfl (op_neq rfl (ev2 rfl) (ev1 rfl)) (by simp only [upd, za, zaa]; exact rfl) ?_
  refine zab rfl rfl rfl (op_or rfl (ev1 rfl) (ev3 rfl (fun _ => rfl))) ?_
  refine zae ?_
  refine zaw rfl (fun c1 => ?_) (fun c1 => ?_)
  · refine zaf ?_
    refine zac ?_
    refine zab rfl rfl rfl (zad (.inr rfl) (ev1 rfl)) ?_
    refine zae ?_
    refine zau ?_
    refine kend0 (rs1 rfl (rv_t rfl)) rfl ?_
    have hb : opB o = false := by
      unfold opB
      simp_all [mostK, errz, eqI_dec, errOr_z]
      all_goals (first | (intros; omega) | (intros; simp_all; done))
    rw [hb]
    rfl
  · refine zak ?_
    refine zaf ?_
    refine zaf ?_
    refine zac ?_
    refine zab rfl rfl rfl (zah [] [] [] rfl (ev1 rfl) en rfl rfl (fields_d) rfl rfl rfl rfl rfl rfl) ?_
    refine zab rfl rfl rfl (zad (.inl rfl) (ev1 rfl)) ?_
    refine zae ?_
    refine zat ?_
    refine dwp_dloop (dloop_step ?_)
    refine zaf ?_
    refine zac ?_
    refine zab rfl rfl rfl ((op_lss rfl (ev1 rfl) (ev1 rfl)).cast (d' := .val (.bool true)) (by kernel_rfl)) ?_
    refine zae ?_
    refine zaf ?_
    refine dwp_if_t rfl (rfl) ?_
    refine zak ?_
    refine zaf ?_
    refine zat ?_
    refine zaf ?_
    refine zaj 1 (by simp only [holes, List.cons_append, List.nil_append]; exact rfl) ?_
    refine zac ?_
    refine zab rfl rfl rfl (zad (.inl rfl) (ev1 rfl)) ?_
    refine zab rfl rfl rfl (op_ixwr (0) rfl av173 (ev1 rfl) (ev1 rfl) (fun _ => rfl) (fun _ => by decide) (Nat.le_of_ble_eq_true rfl)) ?_
    refine zam rfl rfl rfl (zaq 2 rfl zr172 rfl) (by simp only [upd, za, zaa]; exact rfl) ?_
    refine zab rfl rfl rfl (zad (.inr rfl) (ev1 rfl)) ?_
    refine zax rfl rfl (op_stam rfl tb172 (ev1 rfl) (ev1 rfl) rfl rfl rfl rfl) (by simp only [upd, za, zaa]; exact rfl) ?_
    refine zae ?_
    refine zaf ?_
    refine zac ?_
    refine zab rfl rfl rfl (zap rfl fo164_0 (ev1 rfl)) ?_
    refine zab rfl rfl rfl (zav rfl tb3 (ev1 rfl) rfl rfl) ?_
    refine zab rfl rfl rfl (zad (.inl rfl) (ev1 rfl)) ?_
    refine zab rfl rfl rfl ((op_shr (0) rfl (ev1 rfl) (ev1 rfl) (fun _ => ⟨rfl, by decide⟩)).cast (d' := .val (.int .i64 67)) (by kernel_rfl)) ?_
    refine zab rfl rfl rfl ((op_iand rfl (ev1 rfl) (ev1 rfl)).cast (d' := .val (.int .i64 1)) (by kernel_rfl)) ?_
    refine zab rfl rfl rfl ((zb rfl (ev1 rfl) (ev1 rfl)).cast (d' := .val (.bool true)) (by kernel_rfl)) ?_
    refine zab rfl rfl rfl (zad (.inl rfl) (ev1 rfl)) ?_
    refine zai (zar (b := true) rfl rfl rfl) rfl rfl rfl (zap rfl fo172_1 (ev1 rfl)) (by simp only [upd, za, zaa]; exact rfl) ?_
    refine zai (zar (b := true) rfl rfl rfl) rfl rfl rfl (zav rfl tb168 (ev2 rfl) rfl rfl) (by simp only [upd, za, zaa]; exact rfl) ?_
    refine zai (zar (b := true) rfl rfl rfl) rfl rfl rfl (op_ldmw rfl tb164 (ev1 rfl) rfl rfl) (by simp only [upd, za, zaa]; exact rfl) ?_
    refine zai (zar (b := true) rfl rfl rfl) rfl rfl rfl (zah [] [0] [] rfl (ev2 rfl) (ec (ev2 rfl) (ec (ev1 rfl) en)) rfl rfl (fit0_d _ _ _ _ _) rfl rfl rfl rfl rfl rfl) (by simp only [upd, za, zaa]; exact rfl) ?_
    refine zai (zar (b := true) rfl rfl rfl) rfl rfl rfl (op_not rfl (ev2 rfl)) (by simp only [upd, za, zaa]; exact rfl) ?_
    refine zab rfl rfl rfl (zaz rfl (ev1 rfl) (ev3 rfl (fun _ => rfl))) ?_
    refine zab rfl rfl rfl (zad (.inl rfl) (ev1 rfl)) ?_
    refine zag (zan rfl rfl rfl) rfl rfl rfl (zap rfl fo164_0 (ev1 rfl)) ?_
    refine zag (zan rfl rfl rfl) rfl rfl rfl (zav rfl tb3 (ev2 rfl) rfl rfl) ?_
    refine zag (zan rfl rfl rfl) rfl rfl rfl (zad (.inl rfl) (ev1 rfl)) ?_
    refine zag (zan rfl rfl rfl) rfl rfl rfl ((op_shr (0) rfl (ev2 rfl) (ev2 rfl) (fun _ => ⟨rfl, by decide⟩)).cast (d' := .val (.int .i64 67)) (by kernel_rfl)) ?_
    refine zag (zan rfl rfl rfl) rfl rfl rfl ((op_iand rfl (ev2 rfl) (ev1 rfl)).cast (d' := .val (.int .i64 1)) (by kernel_rfl)) ?_
    refine zag (zan rfl rfl rfl) rfl rfl rfl ((zb rfl (ev2 rfl) (ev1 rfl)).cast (d' := .val (.bool false)) (by kernel_rfl)) ?_
    refine zag (zan rfl rfl rfl) rfl rfl rfl (zad (.inl rfl) (ev2 rfl)) ?_
    refine zag (zay rfl rfl rfl) rfl rfl rfl (zap rfl fo172_2 (ev1 rfl)) ?_
    refine zag (zay rfl rfl rfl) rfl rfl rfl (zav rfl tb169 (ev2 rfl) rfl rfl) ?_
    refine zag (zay rfl rfl rfl) rfl rfl rfl (zah [] [0] [] rfl (ev2 rfl) (ec (ev1 rfl) en) rfl rfl (blk0_d _) rfl rfl rfl rfl rfl rfl) ?_
    refine zag (zay rfl rfl rfl) rfl rfl rfl (op_not rfl (ev2 rfl)) ?_
    refine zag (zan rfl rfl rfl) rfl rfl rfl ((zaz rfl (ev2 rfl) (ev2 rfl)).cast (d' := .val (.bool false)) (by rfl)) ?_
    refine zab rfl rfl rfl (op_or rfl (ev1 rfl) (ev3 rfl id)) ?_
    refine zae ?_
    refine zaw rfl (fun c3 => ?_) (fun c3 => ?_)
    · refine zaf ?_
      refine zac ?_
      refine zab rfl rfl rfl (zad (.inr rfl) (ev1 rfl)) ?_
      refine zae ?_
      refine zau ?_
      refine kend0 (rs1 rfl (rv_t rfl)) rfl ?_
      have hb : opB o = false := by
        unfold opB
        simp_all [mostK, errz, eqI_dec, errOr_z]
        all_goals (first | (intros; omega) | (intros; simp_all; done))
      rw [hb]
      rfl
    · refine zak ?_
      refine zac ?_
      refine zab rfl rfl rfl ((op_add' rfl (ev1 rfl) (ev1 rfl) (fun _ => IntWalk.i64_in _ (by omega))).cast (d' := .val (.int .i64 1)) (by kernel_rfl)) ?_
      refine zab rfl rfl rfl (zad (.inl rfl) (ev1 rfl)) ?_
      refine zae ?_
      refine dloop_step ?_
      refine zaf ?_
      refine zac ?_
      refine zab rfl rfl rfl ((op_lss rfl (ev1 rfl) (ev1 rfl)).cast (d' := .val (.bool true)) (by kernel_rfl)) ?_
      refine zae ?_
      refine zaf ?_
      refine dwp_if_t rfl (rfl) ?_
      refine zak ?_
      refine zaf ?_
      refine zat ?_
      refine zaf ?_
      refine zaj 1 (by simp only [holes, List.cons_append, List.nil_append]; exact rfl) ?_
      refine zac ?_
      refine zab rfl rfl rfl (zad (.inl rfl) (ev1 rfl)) ?_
      refine zab rfl rfl rfl (op_ixwr (1) rfl av173 (ev1 rfl) (ev1 rfl) (fun _ => rfl) (fun _ => by decide) (Nat.le_of_ble_eq_true rfl)) ?_
      refine zam rfl rfl rfl (zaq 3 rfl zr172 rfl) (by simp only [upd, za, zaa]; exact rfl) ?_
      refine zab rfl rfl rfl (zad (.inr rfl) (ev1 rfl)) ?_
      refine zax rfl rfl (op_stam rfl tb172 (ev1 rfl) (ev1 rfl) rfl rfl rfl rfl) (by simp only [upd, za, zaa]; exact rfl) ?_
      refine zae ?_
      refine zaf ?_
      refine zac ?_
      refine zab rfl rfl rfl (zap rfl fo164_0 (ev1 rfl)) ?_
      refine zab rfl rfl rfl (zav rfl tb3 (ev1 rfl) rfl rfl) ?_
      refine zab rfl rfl rfl (zad (.inl rfl) (ev1 rfl)) ?_
      refine zab rfl rfl rfl ((op_shr (1) rfl (ev1 rfl) (ev1 rfl) (fun _ => ⟨rfl, by decide⟩)).cast (d' := .val (.int .i64 33)) (by kernel_rfl)) ?_
      refine zab rfl rfl rfl ((op_iand rfl (ev1 rfl) (ev1 rfl)).cast (d' := .val (.int .i64 1)) (by kernel_rfl)) ?_
      refine zab rfl rfl rfl ((zb rfl (ev1 rfl) (ev1 rfl)).cast (d' := .val (.bool true)) (by kernel_rfl)) ?_
      refine zab rfl rfl rfl (zad (.inl rfl) (ev1 rfl)) ?_
      refine zai (zar (b := true) rfl rfl rfl) rfl rfl rfl (zap rfl fo172_1 (ev1 rfl)) (by simp only [upd, za, zaa]; exact rfl) ?_
      refine zai (zar (b := true) rfl rfl rfl) rfl rfl rfl (zav rfl tb168 (ev2 rfl) rfl rfl) (by simp only [upd, za, zaa]; exact rfl) ?_
      refine zai (zar (b := true) rfl rfl rfl) rfl rfl rfl (op_ldmw rfl tb164 (ev1 rfl) rfl rfl) (by simp only [upd, za, zaa]; exact rfl) ?_
      refine zai (zar (b := true) rfl rfl rfl) rfl rfl rfl (zah [] [0] [] rfl (ev2 rfl) (ec (ev2 rfl) (ec (ev1 rfl) en)) rfl rfl (fit1_d _ _ _ _ _) rfl rfl rfl rfl rfl rfl) (by simp only [upd, za, zaa]; exact rfl) ?_
      refine zai (zar (b := true) rfl rfl rfl) rfl rfl rfl (op_not rfl (ev2 rfl)) (by simp only [upd, za, zaa]; exact rfl) ?_
      refine zab rfl rfl rfl (zaz rfl (ev1 rfl) (ev3 rfl (fun _ => rfl))) ?_
      refine zab rfl rfl rfl (zad (.inl rfl) (ev1 rfl)) ?_
      refine zag (zan rfl rfl rfl) rfl rfl rfl (zap rfl fo164_0 (ev1 rfl)) ?_
      refine zag (zan rfl rfl rfl) rfl rfl rfl (zav rfl tb3 (ev2 rfl) rfl rfl) ?_
      refine zag (zan rfl rfl rfl) rfl rfl rfl (zad (.inl rfl) (ev1 rfl)) ?_
      refine zag (zan rfl rfl rfl) rfl rfl rfl ((op_shr (1) rfl (ev2 rfl) (ev2 rfl) (fun _ => ⟨rfl, by decide⟩)).cast (d' := .val (.int .i64 33)) (by kernel_rfl)) ?_
      refine zag (zan rfl rfl rfl) rfl rfl rfl ((op_iand rfl (ev2 rfl) (ev1 rfl)).cast (d' := .val (.int .i64 1)) (by kernel_rfl)) ?_
      refine zag (zan rfl rfl rfl) rfl rfl rfl ((zb rfl (ev2 rfl) (ev1 rfl)).cast (d' := .val (.bool false)) (by kernel_rfl)) ?_
      refine zag (zan rfl rfl rfl) rfl rfl rfl (zad (.inl rfl) (ev2 rfl)) ?_
      refine zag (zay rfl rfl rfl) rfl rfl rfl (zap rfl fo172_2 (ev1 rfl)) ?_
      refine zag (zay rfl rfl rfl) rfl rfl rfl (zav rfl tb169 (ev2 rfl) rfl rfl) ?_
      refine zag (zay rfl rfl rfl) rfl rfl rfl (zah [] [0] [] rfl (ev2 rfl) (ec (ev1 rfl) en) rfl rfl (blk1_d _) rfl rfl rfl rfl rfl rfl) ?_
      refine zag (zay rfl rfl rfl) rfl rfl rfl (op_not rfl (ev2 rfl)) ?_
      refine zag (zan rfl rfl rfl) rfl rfl rfl ((zaz rfl (ev2 rfl) (ev2 rfl)).cast (d' := .val (.bool false)) (by rfl)) ?_
      refine zab rfl rfl rfl (op_or rfl (ev1 rfl) (ev3 rfl id)) ?_
      refine zae ?_
      refine zaw rfl (fun c5 => ?_) (fun c5 => ?_)
      · refine zaf ?_
        refine zac ?_
        refine zab rfl rfl rfl (zad (.inr rfl) (ev1 rfl)) ?_
        refine zae ?_
        refine zau ?_
        refine kend0 (rs1 rfl (rv_t rfl)) rfl ?_
        have hb : opB o = false := by
          unfold opB
          simp_all [mostK, errz, eqI_dec, errOr_z]
          all_goals (first | (intros; omega) | (intros; simp_all; done))
        rw [hb]
        rfl
      · refine zak ?_
        refine zac ?_
        refine zab rfl rfl rfl ((op_add' rfl (ev1 rfl) (ev1 rfl) (fun _ => IntWalk.i64_in _ (by omega))).cast (d' := .val (.int .i64 2)) (by kernel_rfl)) ?_
        refine zab rfl rfl rfl (zad (.inl rfl) (ev1 rfl)) ?_
        refine zae ?_
        refine dloop_step ?_
        refine zaf ?_
        refine zac ?_
        refine zab rfl rfl rfl ((op_lss rfl (ev1 rfl) (ev1 rfl)).cast (d' := .val (.bool true)) (by kernel_rfl)) ?_
        refine zae ?_
        refine zaf ?_
        refine dwp_if_t rfl (rfl) ?_
        refine zak ?_
        refine zaf ?_
        refine zat ?_
        refine zaf ?_
        refine zaj 1 (by simp only [holes, List.cons_append, List.nil_append]; exact rfl) ?_
        refine zac ?_
        refine zab rfl rfl rfl (zad (.inl rfl) (ev1 rfl)) ?_
        refine zab rfl rfl rfl (op_ixwr (2) rfl av173 (ev1 rfl) (ev1 rfl) (fun _ => rfl) (fun _ => by decide) (Nat.le_of_ble_eq_true rfl)) ?_
        refine zam rfl rfl rfl (zaq 4 rfl zr172 rfl) (by simp only [upd, za, zaa]; exact rfl) ?_
        refine zab rfl rfl rfl (zad (.inr rfl) (ev1 rfl)) ?_
        refine zax rfl rfl (op_stam rfl tb172 (ev1 rfl) (ev1 rfl) rfl rfl rfl rfl) (by simp only [upd, za, zaa]; exact rfl) ?_
        refine zae ?_
        refine zaf ?_
        refine zac ?_
        refine zab rfl rfl rfl (zap rfl fo164_0 (ev1 rfl)) ?_
        refine zab rfl rfl rfl (zav rfl tb3 (ev1 rfl) rfl rfl) ?_
        refine zab rfl rfl rfl (zad (.inl rfl) (ev1 rfl)) ?_
        refine zab rfl rfl rfl ((op_shr (2) rfl (ev1 rfl) (ev1 rfl) (fun _ => ⟨rfl, by decide⟩)).cast (d' := .val (.int .i64 16)) (by kernel_rfl)) ?_
        refine zab rfl rfl rfl ((op_iand rfl (ev1 rfl) (ev1 rfl)).cast (d' := .val (.int .i64 0)) (by kernel_rfl)) ?_
        refine zab rfl rfl rfl ((zb rfl (ev1 rfl) (ev1 rfl)).cast (d' := .val (.bool false)) (by kernel_rfl)) ?_
        refine zab rfl rfl rfl (zad (.inl rfl) (ev1 rfl)) ?_
        refine zag (zar (b := false) rfl rfl rfl) rfl rfl rfl (zal (d := .junk)) ?_
        refine zag (zar (b := false) rfl rfl rfl) rfl rfl rfl (zal (d := .junk)) ?_
        refine zag (zar (b := false) rfl rfl rfl) rfl rfl rfl (zal (d := .junk)) ?_
        refine zag (zar (b := false) rfl rfl rfl) rfl rfl rfl (zal (d := .val (.bool false))) ?_
        refine zag (zar (b := false) rfl rfl rfl) rfl rfl rfl (zal (d := .val (.bool false))) ?_
        refine zab rfl rfl rfl ((zaz rfl (ev1 rfl) (ev3 rfl id)).cast (d' := .val (.bool false)) (by rfl)) ?_
        refine zab rfl rfl rfl (zad (.inl rfl) (ev1 rfl)) ?_
        refine zai (zan (b := false) rfl rfl rfl) rfl rfl rfl (zap rfl fo164_0 (ev1 rfl)) (by simp only [upd, za, zaa]; exact rfl) ?_
        refine zai (zan (b := false) rfl rfl rfl) rfl rfl rfl (zav rfl tb3 (ev2 rfl) rfl rfl) (by simp only [upd, za, zaa]; exact rfl) ?_
        refine zai (zan (b := false) rfl rfl rfl) rfl rfl rfl (zad (.inl rfl) (ev1 rfl)) (by simp only [upd, za, zaa]; exact rfl) ?_
        refine zai (zan (b := false) rfl rfl rfl) rfl rfl rfl ((op_shr (2) rfl (ev2 rfl) (ev2 rfl) (fun _ => ⟨rfl, by decide⟩)).cast (d' := .val (.int .i64 16)) (by kernel_rfl)) (by simp only [upd, za, zaa]; exact rfl) ?_
        refine zai (zan (b := false) rfl rfl rfl) rfl rfl rfl ((op_iand rfl (ev2 rfl) (ev1 rfl)).cast (d' := .val (.int .i64 0)) (by kernel_rfl)) (by simp only [upd, za, zaa]; exact rfl) ?_
        refine zai (zan (b := false) rfl rfl rfl) rfl rfl rfl ((zb rfl (ev2 rfl) (ev1 rfl)).cast (d' := .val (.bool true)) (by kernel_rfl)) (by simp only [upd, za, zaa]; exact rfl) ?_
        refine zai (zan (b := false) rfl rfl rfl) rfl rfl rfl (zad (.inl rfl) (ev2 rfl)) (by simp only [upd, za, zaa]; exact rfl) ?_
        refine zai (zay (g := true) (b := true) rfl rfl rfl) rfl rfl rfl (zap rfl fo172_2 (ev1 rfl)) (by simp only [upd, za, zaa]; exact rfl) ?_
        refine zai (zay (g := true) (b := true) rfl rfl rfl) rfl rfl rfl (zav rfl tb169 (ev2 rfl) rfl rfl) (by simp only [upd, za, zaa]; exact rfl) ?_
        refine zai (zay (g := true) (b := true) rfl rfl rfl) rfl rfl rfl (zah [] [0] [] rfl (ev2 rfl) (ec (ev1 rfl) en) rfl rfl (blk2_d _) rfl rfl rfl rfl rfl rfl) (by simp only [upd, za, zaa]; exact rfl) ?_
        refine zai (zay (g := true) (b := true) rfl rfl rfl) rfl rfl rfl (op_not rfl (ev2 rfl)) (by simp only [upd, za, zaa]; exact rfl) ?_
        refine zai (zan (b := false) rfl rfl rfl) rfl rfl rfl (zaz rfl (ev2 rfl) (ev3 rfl (fun _ => rfl))) (by simp only [upd, za, zaa]; exact rfl) ?_
        refine zab rfl rfl rfl (op_or rfl (ev1 rfl) (ev3 rfl (fun _ => rfl))) ?_
        refine zae ?_
        refine zaw rfl (fun c7 => ?_) (fun c7 => ?_)
        · refine zaf ?_
          refine zac ?_
          refine zab rfl rfl rfl (zad (.inr rfl) (ev1 rfl)) ?_
          refine zae ?_
          refine zau ?_
          refine kend0 (rs1 rfl (rv_t rfl)) rfl ?_
          have hb : opB o = false := by
            unfold opB
            simp_all [mostK, errz, eqI_dec, errOr_z]
            all_goals (first | (intros; omega) | (intros; simp_all; done))
          rw [hb]
          rfl
        · refine zak ?_
          refine zac ?_
          refine zab rfl rfl rfl ((op_add' rfl (ev1 rfl) (ev1 rfl) (fun _ => IntWalk.i64_in _ (by omega))).cast (d' := .val (.int .i64 3)) (by kernel_rfl)) ?_
          refine zab rfl rfl rfl (zad (.inl rfl) (ev1 rfl)) ?_
          refine zae ?_
          refine dloop_step ?_
          refine zaf ?_
          refine zac ?_
          refine zab rfl rfl rfl ((op_lss rfl (ev1 rfl) (ev1 rfl)).cast (d' := .val (.bool true)) (by kernel_rfl)) ?_
          refine zae ?_
          refine zaf ?_
          refine dwp_if_t rfl (rfl) ?_
          refine zak ?_
          refine zaf ?_
          refine zat ?_
          refine zaf ?_
          refine zaj 1 (by simp only [holes, List.cons_append, List.nil_append]; exact rfl) ?_
          refine zac ?_
          refine zab rfl rfl rfl (zad (.inl rfl) (ev1 rfl)) ?_
          refine zab rfl rfl rfl (op_ixwr (3) rfl av173 (ev1 rfl) (ev1 rfl) (fun _ => rfl) (fun _ => by decide) (Nat.le_of_ble_eq_true rfl)) ?_
          refine zam rfl rfl rfl (zaq 5 rfl zr172 rfl) (by simp only [upd, za, zaa]; exact rfl) ?_
          refine zab rfl rfl rfl (zad (.inr rfl) (ev1 rfl)) ?_
          refine zax rfl rfl (op_stam rfl tb172 (ev1 rfl) (ev1 rfl) rfl rfl rfl rfl) (by simp only [upd, za, zaa]; exact rfl) ?_
          refine zae ?_
          refine zaf ?_
          refine zac ?_
          refine zab rfl rfl rfl (zap rfl fo164_0 (ev1 rfl)) ?_
          refine zab rfl rfl rfl (zav rfl tb3 (ev1 rfl) rfl rfl) ?_
          refine zab rfl rfl rfl (zad (.inl rfl) (ev1 rfl)) ?_
          refine zab rfl rfl rfl ((op_shr (3) rfl (ev1 rfl) (ev1 rfl) (fun _ => ⟨rfl, by decide⟩)).cast (d' := .val (.int .i64 8)) (by kernel_rfl)) ?_
          refine zab rfl rfl rfl ((op_iand rfl (ev1 rfl) (ev1 rfl)).cast (d' := .val (.int .i64 0)) (by kernel_rfl)) ?_
          refine zab rfl rfl rfl ((zb rfl (ev1 rfl) (ev1 rfl)).cast (d' := .val (.bool false)) (by kernel_rfl)) ?_
          refine zab rfl rfl rfl (zad (.inl rfl) (ev1 rfl)) ?_
          refine zag (zar (b := false) rfl rfl rfl) rfl rfl rfl (zal (d := .junk)) ?_
          refine zag (zar (b := false) rfl rfl rfl) rfl rfl rfl (zal (d := .junk)) ?_
          refine zag (zar (b := false) rfl rfl rfl) rfl rfl rfl (zal (d := .junk)) ?_
          refine zag (zar (b := false) rfl rfl rfl) rfl rfl rfl (zal (d := .val (.bool false))) ?_
          refine zag (zar (b := false) rfl rfl rfl) rfl rfl rfl (zal (d := .val (.bool false))) ?_
          refine zab rfl rfl rfl ((zaz rfl (ev1 rfl) (ev3 rfl id)).cast (d' := .val (.bool false)) (by rfl)) ?_
          refine zab rfl rfl rfl (zad (.inl rfl) (ev1 rfl)) ?_
          refine zai (zan (b := false) rfl rfl rfl) rfl rfl rfl (zap rfl fo164_0 (ev1 rfl)) (by simp only [upd, za, zaa]; exact rfl) ?_
          refine zai (zan (b := false) rfl rfl rfl) rfl rfl rfl (zav rfl tb3 (ev2 rfl) rfl rfl) (by simp only [upd, za, zaa]; exact rfl) ?_
          refine zai (zan (b := false) rfl rfl rfl) rfl rfl rfl (zad (.inl rfl) (ev1 rfl)) (by simp only [upd, za, zaa]; exact rfl) ?_
          refine zai (zan (b := false) rfl rfl rfl) rfl rfl rfl ((op_shr (3) rfl (ev2 rfl) (ev2 rfl) (fun _ => ⟨rfl, by decide⟩)).cast (d' := .val (.int .i64 8)) (by kernel_rfl)) (by simp only [upd, za, zaa]; exact rfl) ?_
          refine zai (zan (b := false) rfl rfl rfl) rfl rfl rfl ((op_iand rfl (ev2 rfl) (ev1 rfl)).cast (d' := .val (.int .i64 0)) (by kernel_rfl)) (by simp only [upd, za, zaa]; exact rfl) ?_
          refine zai (zan (b := false) rfl rfl rfl) rfl rfl rfl ((zb rfl (ev2 rfl) (ev1 rfl)).cast (d' := .val (.bool true)) (by kernel_rfl)) (by simp only [upd, za, zaa]; exact rfl) ?_
          refine zai (zan (b := false) rfl rfl rfl) rfl rfl rfl (zad (.inl rfl) (ev2 rfl)) (by simp only [upd, za, zaa]; exact rfl) ?_
          refine zai (zay (g := true) (b := true) rfl rfl rfl) rfl rfl rfl (zap rfl fo172_2 (ev1 rfl)) (by simp only [upd, za, zaa]; exact rfl) ?_
          refine zai (zay (g := true) (b := true) rfl rfl rfl) rfl rfl rfl (zav rfl tb169 (ev2 rfl) rfl rfl) (by simp only [upd, za, zaa]; exact rfl) ?_
          refine zai (zay (g := true) (b := true) rfl rfl rfl) rfl rfl rfl (zah [] [0] [] rfl (ev2 rfl) (ec (ev1 rfl) en) rfl rfl (blk3_d _) rfl rfl rfl rfl rfl rfl) (by simp only [upd, za, zaa]; exact rfl) ?_
          refine zai (zay (g := true) (b := true) rfl rfl rfl) rfl rfl rfl (op_not rfl (ev2 rfl)) (by simp only [upd, za, zaa]; exact rfl) ?_
          refine zai (zan (b := false) rfl rfl rfl) rfl rfl rfl (zaz rfl (ev2 rfl) (ev3 rfl (fun _ => rfl))) (by simp only [upd, za, zaa]; exact rfl) ?_
          refine zab rfl rfl rfl (op_or rfl (ev1 rfl) (ev3 rfl (fun _ => rfl))) ?_
          refine zae ?_
          refine zaw rfl (fun c9 => ?_) (fun c9 => ?_)
          · refine zaf ?_
            refine zac ?_
            refine zab rfl rfl rfl (zad (.inr rfl) (ev1 rfl)) ?_
            refine zae ?_
            refine zau ?_
            refine kend0 (rs1 rfl (rv_t rfl)) rfl ?_
            have hb : opB o = false := by
              unfold opB
              simp_all [mostK, errz, eqI_dec, errOr_z]
              all_goals (first | (intros; omega) | (intros; simp_all; done))
            rw [hb]
            rfl
          · refine zak ?_
            refine zac ?_
            refine zab rfl rfl rfl ((op_add' rfl (ev1 rfl) (ev1 rfl) (fun _ => IntWalk.i64_in _ (by omega))).cast (d' := .val (.int .i64 4)) (by kernel_rfl)) ?_
            refine zab rfl rfl rfl (zad (.inl rfl) (ev1 rfl)) ?_
            refine zae ?_
            refine dloop_step ?_
            refine zaf ?_
            refine zac ?_
            refine zab rfl rfl rfl ((op_lss rfl (ev1 rfl) (ev1 rfl)).cast (d' := .val (.bool true)) (by kernel_rfl)) ?_
            refine zae ?_
            refine zaf ?_
            refine dwp_if_t rfl (rfl) ?_
            refine zak ?_
            refine zaf ?_
            refine zat ?_
            refine zaf ?_
            refine zaj 1 (by simp only [holes, List.cons_append, List.nil_append]; exact rfl) ?_
            refine zac ?_
            refine zab rfl rfl rfl (zad (.inl rfl) (ev1 rfl)) ?_
            refine zab rfl rfl rfl (op_ixwr (4) rfl av173 (ev1 rfl) (ev1 rfl) (fun _ => rfl) (fun _ => by decide) (Nat.le_of_ble_eq_true rfl)) ?_
            refine zam rfl rfl rfl (zaq 6 rfl zr172 rfl) (by simp only [upd, za, zaa]; exact rfl) ?_
            refine zab rfl rfl rfl (zad (.inr rfl) (ev1 rfl)) ?_
            refine zax rfl rfl (op_stam rfl tb172 (ev1 rfl) (ev1 rfl) rfl rfl rfl rfl) (by simp only [upd, za, zaa]; exact rfl) ?_
            refine zae ?_
            refine zaf ?_
            refine zac ?_
            refine zab rfl rfl rfl (zap rfl fo164_0 (ev1 rfl)) ?_
            refine zab rfl rfl rfl (zav rfl tb3 (ev1 rfl) rfl rfl) ?_
            refine zab rfl rfl rfl (zad (.inl rfl) (ev1 rfl)) ?_
            refine zab rfl rfl rfl ((op_shr (4) rfl (ev1 rfl) (ev1 rfl) (fun _ => ⟨rfl, by decide⟩)).cast (d' := .val (.int .i64 4)) (by kernel_rfl)) ?_
            refine zab rfl rfl rfl ((op_iand rfl (ev1 rfl) (ev1 rfl)).cast (d' := .val (.int .i64 0)) (by kernel_rfl)) ?_
            refine zab rfl rfl rfl ((zb rfl (ev1 rfl) (ev1 rfl)).cast (d' := .val (.bool false)) (by kernel_rfl)) ?_
            refine zab rfl rfl rfl (zad (.inl rfl) (ev1 rfl)) ?_
            refine zag (zar (b := false) rfl rfl rfl) rfl rfl rfl (zal (d := .junk)) ?_
            refine zag (zar (b := false) rfl rfl rfl) rfl rfl rfl (zal (d := .junk)) ?_
            refine zag (zar (b := false) rfl rfl rfl) rfl rfl rfl (zal (d := .junk)) ?_
            refine zag (zar (b := false) rfl rfl rfl) rfl rfl rfl (zal (d := .val (.bool false))) ?_
            refine zag (zar (b := false) rfl rfl rfl) rfl rfl rfl (zal (d := .val (.bool false))) ?_
            refine zab rfl rfl rfl ((zaz rfl (ev1 rfl) (ev3 rfl id)).cast (d' := .val (.bool false)) (by rfl)) ?_
            refine zab rfl rfl rfl (zad (.inl rfl) (ev1 rfl)) ?_
            refine zai (zan (b := false) rfl rfl rfl) rfl rfl rfl (zap rfl fo164_0 (ev1 rfl)) (by simp only [upd, za, zaa]; exact rfl) ?_
            refine zai (zan (b := false) rfl rfl rfl) rfl rfl rfl (zav rfl tb3 (ev2 rfl) rfl rfl) (by simp only [upd, za, zaa]; exact rfl) ?_
            refine zai (zan (b := false) rfl rfl rfl) rfl rfl rfl (zad (.inl rfl) (ev1 rfl)) (by simp only [upd, za, zaa]; exact rfl) ?_
            refine zai (zan (b := false) rfl rfl rfl) rfl rfl rfl ((op_shr (4) rfl (ev2 rfl) (ev2 rfl) (fun _ => ⟨rfl, by decide⟩)).cast (d' := .val (.int .i64 4)) (by kernel_rfl)) (by simp only [upd, za, zaa]; exact rfl) ?_
            refine zai (zan (b := false) rfl rfl rfl) rfl rfl rfl ((op_iand rfl (ev2 rfl) (ev1 rfl)).cast (d' := .val (.int .i64 0)) (by kernel_rfl)) (by simp only [upd, za, zaa]; exact rfl) ?_
            refine zai (zan (b := false) rfl rfl rfl) rfl rfl rfl ((zb rfl (ev2 rfl) (ev1 rfl)).cast (d' := .val (.bool true)) (by kernel_rfl)) (by simp only [upd, za, zaa]; exact rfl) ?_
            refine zai (zan (b := false) rfl rfl rfl) rfl rfl rfl (zad (.inl rfl) (ev2 rfl)) (by simp only [upd, za, zaa]; exact rfl) ?_
            refine zai (zay (g := true) (b := true) rfl rfl rfl) rfl rfl rfl (zap rfl fo172_2 (ev1 rfl)) (by simp only [upd, za, zaa]; exact rfl) ?_
            refine zai (zay (g := true) (b := true) rfl rfl rfl) rfl rfl rfl (zav rfl tb169 (ev2 rfl) rfl rfl) (by simp only [upd, za, zaa]; exact rfl) ?_
            refine zai (zay (g := true) (b := true) rfl rfl rfl) rfl rfl rfl (zah [] [0] [] rfl (ev2 rfl) (ec (ev1 rfl) en) rfl rfl (blk4_d _) rfl rfl rfl rfl rfl rfl) (by simp only [upd, za, zaa]; exact rfl) ?_
            refine zai (zay (g := true) (b := true) rfl rfl rfl) rfl rfl rfl (op_not rfl (ev2 rfl)) (by simp only [upd, za, zaa]; exact rfl) ?_
            refine zai (zan (b := false) rfl rfl rfl) rfl rfl rfl (zaz rfl (ev2 rfl) (ev3 rfl (fun _ => rfl))) (by simp only [upd, za, zaa]; exact rfl) ?_
            refine zab rfl rfl rfl (op_or rfl (ev1 rfl) (ev3 rfl (fun _ => rfl))) ?_
            refine zae ?_
            refine zaw rfl (fun c11 => ?_) (fun c11 => ?_)
            · refine zaf ?_
              refine zac ?_
              refine zab rfl rfl rfl (zad (.inr rfl) (ev1 rfl)) ?_
              refine zae ?_
              refine zau ?_
              refine kend0 (rs1 rfl (rv_t rfl)) rfl ?_
              have hb : opB o = false := by
                unfold opB
                simp_all [mostK, errz, eqI_dec, errOr_z]
                all_goals (first | (intros; omega) | (intros; simp_all; done))
              rw [hb]
              rfl
            · refine zak ?_
              refine zac ?_
              refine zab rfl rfl rfl ((op_add' rfl (ev1 rfl) (ev1 rfl) (fun _ => IntWalk.i64_in _ (by omega))).cast (d' := .val (.int .i64 5)) (by kernel_rfl)) ?_
              refine zab rfl rfl rfl (zad (.inl rfl) (ev1 rfl)) ?_
              refine zae ?_
              refine dloop_step ?_
              refine zaf ?_
              refine zac ?_
              refine zab rfl rfl rfl ((op_lss rfl (ev1 rfl) (ev1 rfl)).cast (d' := .val (.bool true)) (by kernel_rfl)) ?_
              refine zae ?_
              refine zaf ?_
              refine dwp_if_t rfl (rfl) ?_
              refine zak ?_
              refine zaf ?_
              refine zat ?_
              refine zaf ?_
              refine zaj 1 (by simp only [holes, List.cons_append, List.nil_append]; exact rfl) ?_
              refine zac ?_
              refine zab rfl rfl rfl (zad (.inl rfl) (ev1 rfl)) ?_
              refine zab rfl rfl rfl (op_ixwr (5) rfl av173 (ev1 rfl) (ev1 rfl) (fun _ => rfl) (fun _ => by decide) (Nat.le_of_ble_eq_true rfl)) ?_
              refine zam rfl rfl rfl (zaq 7 rfl zr172 rfl) (by simp only [upd, za, zaa]; exact rfl) ?_
              refine zab rfl rfl rfl (zad (.inr rfl) (ev1 rfl)) ?_
              refine zax rfl rfl (op_stam rfl tb172 (ev1 rfl) (ev1 rfl) rfl rfl rfl rfl) (by simp only [upd, za, zaa]; exact rfl) ?_
              refine zae ?_
              refine zaf ?_
              refine zac ?_
              refine zab rfl rfl rfl (zap rfl fo164_0 (ev1 rfl)) ?_
              refine zab rfl rfl rfl (zav rfl tb3 (ev1 rfl) rfl rfl) ?_
              refine zab rfl rfl rfl (zad (.inl rfl) (ev1 rfl)) ?_
              refine zab rfl rfl rfl ((op_shr (5) rfl (ev1 rfl) (ev1 rfl) (fun _ => ⟨rfl, by decide⟩)).cast (d' := .val (.int .i64 2)) (by kernel_rfl)) ?_
              refine zab rfl rfl rfl ((op_iand rfl (ev1 rfl) (ev1 rfl)).cast (d' := .val (.int .i64 0)) (by kernel_rfl)) ?_
              refine zab rfl rfl rfl ((zb rfl (ev1 rfl) (ev1 rfl)).cast (d' := .val (.bool false)) (by kernel_rfl)) ?_
              refine zab rfl rfl rfl (zad (.inl rfl) (ev1 rfl)) ?_
              refine zag (zar (b := false) rfl rfl rfl) rfl rfl rfl (zal (d := .junk)) ?_
              refine zag (zar (b := false) rfl rfl rfl) rfl rfl rfl (zal (d := .junk)) ?_
              refine zag (zar (b := false) rfl rfl rfl) rfl rfl rfl (zal (d := .junk)) ?_
              refine zag (zar (b := false) rfl rfl rfl) rfl rfl rfl (zal (d := .val (.bool false))) ?_
              refine zag (zar (b := false) rfl rfl rfl) rfl rfl rfl (zal (d := .val (.bool false))) ?_
              refine zab rfl rfl rfl ((zaz rfl (ev1 rfl) (ev3 rfl id)).cast (d' := .val (.bool false)) (by rfl)) ?_
              refine zab rfl rfl rfl (zad (.inl rfl) (ev1 rfl)) ?_
              refine zai (zan (b := false) rfl rfl rfl) rfl rfl rfl (zap rfl fo164_0 (ev1 rfl)) (by simp only [upd, za, zaa]; exact rfl) ?_
              refine zai (zan (b := false) rfl rfl rfl) rfl rfl rfl (zav rfl tb3 (ev2 rfl) rfl rfl) (by simp only [upd, za, zaa]; exact rfl) ?_
              refine zai (zan (b := false) rfl rfl rfl) rfl rfl rfl (zad (.inl rfl) (ev1 rfl)) (by simp only [upd, za, zaa]; exact rfl) ?_
              refine zai (zan (b := false) rfl rfl rfl) rfl rfl rfl ((op_shr (5) rfl (ev2 rfl) (ev2 rfl) (fun _ => ⟨rfl, by decide⟩)).cast (d' := .val (.int .i64 2)) (by kernel_rfl)) (by simp only [upd, za, zaa]; exact rfl) ?_
              refine zai (zan (b := false) rfl rfl rfl) rfl rfl rfl ((op_iand rfl (ev2 rfl) (ev1 rfl)).cast (d' := .val (.int .i64 0)) (by kernel_rfl)) (by simp only [upd, za, zaa]; exact rfl) ?_
              refine zai (zan (b := false) rfl rfl rfl) rfl rfl rfl ((zb rfl (ev2 rfl) (ev1 rfl)).cast (d' := .val (.bool true)) (by kernel_rfl)) (by simp only [upd, za, zaa]; exact rfl) ?_
              refine zai (zan (b := false) rfl rfl rfl) rfl rfl rfl (zad (.inl rfl) (ev2 rfl)) (by simp only [upd, za, zaa]; exact rfl) ?_
              refine zai (zay (g := true) (b := true) rfl rfl rfl) rfl rfl rfl (zap rfl fo172_2 (ev1 rfl)) (by simp only [upd, za, zaa]; exact rfl) ?_
              refine zai (zay (g := true) (b := true) rfl rfl rfl) rfl rfl rfl (zav rfl tb169 (ev2 rfl) rfl rfl) (by simp only [upd, za, zaa]; exact rfl) ?_
              refine zai (zay (g := true) (b := true) rfl rfl rfl) rfl rfl rfl (zah [] [0] [] rfl (ev2 rfl) (ec (ev1 rfl) en) rfl rfl (blk5_d _) rfl rfl rfl rfl rfl rfl) (by simp only [upd, za, zaa]; exact rfl) ?_
              refine zai (zay (g := true) (b := true) rfl rfl rfl) rfl rfl rfl (op_not rfl (ev2 rfl)) (by simp only [upd, za, zaa]; exact rfl) ?_
              refine zai (zan (b := false) rfl rfl rfl) rfl rfl rfl (zaz rfl (ev2 rfl) (ev3 rfl (fun _ => rfl))) (by simp only [upd, za, zaa]; exact rfl) ?_
              refine zab rfl rfl rfl (op_or rfl (ev1 rfl) (ev3 rfl (fun _ => rfl))) ?_
              refine zae ?_
              refine zaw rfl (fun c13 => ?_) (fun c13 => ?_)
              · refine zaf ?_
                refine zac ?_
                refine zab rfl rfl rfl (zad (.inr rfl) (ev1 rfl)) ?_
                refine zae ?_
                refine zau ?_
                refine kend0 (rs1 rfl (rv_t rfl)) rfl ?_
                have hb : opB o = false := by
                  unfold opB
                  simp_all [mostK, errz, eqI_dec, errOr_z]
                  all_goals (first | (intros; omega) | (intros; simp_all; done))
                rw [hb]
                rfl
              · refine zak ?_
                refine zac ?_
                refine zab rfl rfl rfl ((op_add' rfl (ev1 rfl) (ev1 rfl) (fun _ => IntWalk.i64_in _ (by omega))).cast (d' := .val (.int .i64 6)) (by kernel_rfl)) ?_
                refine zab rfl rfl rfl (zad (.inl rfl) (ev1 rfl)) ?_
                refine zae ?_
                refine dloop_step ?_
                refine zaf ?_
                refine zac ?_
                refine zab rfl rfl rfl ((op_lss rfl (ev1 rfl) (ev1 rfl)).cast (d' := .val (.bool true)) (by kernel_rfl)) ?_
                refine zae ?_
                refine zaf ?_
                refine dwp_if_t rfl (rfl) ?_
                refine zak ?_
                refine zaf ?_
                refine zat ?_
                refine zaf ?_
                refine zaj 1 (by simp only [holes, List.cons_append, List.nil_append]; exact rfl) ?_
                refine zac ?_
                refine zab rfl rfl rfl (zad (.inl rfl) (ev1 rfl)) ?_
                refine zab rfl rfl rfl (op_ixwr (6) rfl av173 (ev1 rfl) (ev1 rfl) (fun _ => rfl) (fun _ => by decide) (Nat.le_of_ble_eq_true rfl)) ?_
                refine zam rfl rfl rfl (zaq 8 rfl zr172 rfl) (by simp only [upd, za, zaa]; exact rfl) ?_
                refine zab rfl rfl rfl (zad (.inr rfl) (ev1 rfl)) ?_
                refine zax rfl rfl (op_stam rfl tb172 (ev1 rfl) (ev1 rfl) rfl rfl rfl rfl) (by simp only [upd, za, zaa]; exact rfl) ?_
                refine zae ?_
                refine zaf ?_
                refine zac ?_
                refine zab rfl rfl rfl (zap rfl fo164_0 (ev1 rfl)) ?_
                refine zab rfl rfl rfl (zav rfl tb3 (ev1 rfl) rfl rfl) ?_
                refine zab rfl rfl rfl (zad (.inl rfl) (ev1 rfl)) ?_
                refine zab rfl rfl rfl ((op_shr (6) rfl (ev1 rfl) (ev1 rfl) (fun _ => ⟨rfl, by decide⟩)).cast (d' := .val (.int .i64 1)) (by kernel_rfl)) ?_
                refine zab rfl rfl rfl ((op_iand rfl (ev1 rfl) (ev1 rfl)).cast (d' := .val (.int .i64 1)) (by kernel_rfl)) ?_
                refine zab rfl rfl rfl ((zb rfl (ev1 rfl) (ev1 rfl)).cast (d' := .val (.bool true)) (by kernel_rfl)) ?_
                refine zab rfl rfl rfl (zad (.inl rfl) (ev1 rfl)) ?_
                refine zai (zar (b := true) rfl rfl rfl) rfl rfl rfl (zap rfl fo172_1 (ev1 rfl)) (by simp only [upd, za, zaa]; exact rfl) ?_
                refine zai (zar (b := true) rfl rfl rfl) rfl rfl rfl (zav rfl tb168 (ev2 rfl) rfl rfl) (by simp only [upd, za, zaa]; exact rfl) ?_
                refine zai (zar (b := true) rfl rfl rfl) rfl rfl rfl (op_ldmw rfl tb164 (ev1 rfl) rfl rfl) (by simp only [upd, za, zaa]; exact rfl) ?_
                refine zai (zar (b := true) rfl rfl rfl) rfl rfl rfl (zah [] [0] [] rfl (ev2 rfl) (ec (ev2 rfl) (ec (ev1 rfl) en)) rfl rfl (fit6_d _ _ _ _ _) rfl rfl rfl rfl rfl rfl) (by simp only [upd, za, zaa]; exact rfl) ?_
                refine zai (zar (b := true) rfl rfl rfl) rfl rfl rfl (op_not rfl (ev2 rfl)) (by simp only [upd, za, zaa]; exact rfl) ?_
                refine zab rfl rfl rfl (zaz rfl (ev1 rfl) (ev3 rfl (fun _ => rfl))) ?_
                refine zab rfl rfl rfl (zad (.inl rfl) (ev1 rfl)) ?_
                refine zag (zan rfl rfl rfl) rfl rfl rfl (zap rfl fo164_0 (ev1 rfl)) ?_
                refine zag (zan rfl rfl rfl) rfl rfl rfl (zav rfl tb3 (ev2 rfl) rfl rfl) ?_
                refine zag (zan rfl rfl rfl) rfl rfl rfl (zad (.inl rfl) (ev1 rfl)) ?_
                refine zag (zan rfl rfl rfl) rfl rfl rfl ((op_shr (6) rfl (ev2 rfl) (ev2 rfl) (fun _ => ⟨rfl, by decide⟩)).cast (d' := .val (.int .i64 1)) (by kernel_rfl)) ?_
                refine zag (zan rfl rfl rfl) rfl rfl rfl ((op_iand rfl (ev2 rfl) (ev1 rfl)).cast (d' := .val (.int .i64 1)) (by kernel_rfl)) ?_
                refine zag (zan rfl rfl rfl) rfl rfl rfl ((zb rfl (ev2 rfl) (ev1 rfl)).cast (d' := .val (.bool false)) (by kernel_rfl)) ?_
                refine zag (zan rfl rfl rfl) rfl rfl rfl (zad (.inl rfl) (ev2 rfl)) ?_
                refine zag (zay rfl rfl rfl) rfl rfl rfl (zap rfl fo172_2 (ev1 rfl)) ?_
                refine zag (zay rfl rfl rfl) rfl rfl rfl (zav rfl tb169 (ev2 rfl) rfl rfl) ?_
                refine zag (zay rfl rfl rfl) rfl rfl rfl (zah [] [0] [] rfl (ev2 rfl) (ec (ev1 rfl) en) rfl rfl (blk6_d _) rfl rfl rfl rfl rfl rfl) ?_
                refine zag (zay rfl rfl rfl) rfl rfl rfl (op_not rfl (ev2 rfl)) ?_
                refine zag (zan rfl rfl rfl) rfl rfl rfl ((zaz rfl (ev2 rfl) (ev2 rfl)).cast (d' := .val (.bool false)) (by rfl)) ?_
                refine zab rfl rfl rfl (op_or rfl (ev1 rfl) (ev3 rfl id)) ?_
                refine zae ?_
                refine zaw rfl (fun c15 => ?_) (fun c15 => ?_)
                · refine zaf ?_
                  refine zac ?_
                  refine zab rfl rfl rfl (zad (.inr rfl) (ev1 rfl)) ?_
                  refine zae ?_
                  refine zau ?_
                  refine kend0 (rs1 rfl (rv_t rfl)) rfl ?_
                  have hb : opB o = false := by
                    unfold opB
                    simp_all [mostK, errz, eqI_dec, errOr_z]
                    all_goals (first | (intros; omega) | (intros; simp_all; done))
                  rw [hb]
                  rfl
                · refine zak ?_
                  refine zac ?_
                  refine zab rfl rfl rfl ((op_add' rfl (ev1 rfl) (ev1 rfl) (fun _ => IntWalk.i64_in _ (by omega))).cast (d' := .val (.int .i64 7)) (by kernel_rfl)) ?_
                  refine zab rfl rfl rfl (zad (.inl rfl) (ev1 rfl)) ?_
                  refine zae ?_
                  refine dloop_step ?_
                  refine zaf ?_
                  refine zac ?_
                  refine zab rfl rfl rfl ((op_lss rfl (ev1 rfl) (ev1 rfl)).cast (d' := .val (.bool true)) (by kernel_rfl)) ?_
                  refine zae ?_
                  refine zaf ?_
                  refine dwp_if_t rfl (rfl) ?_
                  refine zak ?_
                  refine zaf ?_
                  refine zat ?_
                  refine zaf ?_
                  refine zaj 1 (by simp only [holes, List.cons_append, List.nil_append]; exact rfl) ?_
                  refine zac ?_
                  refine zab rfl rfl rfl (zad (.inl rfl) (ev1 rfl)) ?_
                  refine zab rfl rfl rfl (op_ixwr (7) rfl av173 (ev1 rfl) (ev1 rfl) (fun _ => rfl) (fun _ => by decide) (Nat.le_of_ble_eq_true rfl)) ?_
                  refine zam rfl rfl rfl (zaq 9 rfl zr172 rfl) (by simp only [upd, za, zaa]; exact rfl) ?_
                  refine zab rfl rfl rfl (zad (.inr rfl) (ev1 rfl)) ?_
                  refine zax rfl rfl (op_stam rfl tb172 (ev1 rfl) (ev1 rfl) rfl rfl rfl rfl) (by simp only [upd, za, zaa]; exact rfl) ?_
                  refine zae ?_
                  refine zaf ?_
                  refine zac ?_
                  refine zab rfl rfl rfl (zap rfl fo164_0 (ev1 rfl)) ?_
                  refine zab rfl rfl rfl (zav rfl tb3 (ev1 rfl) rfl rfl) ?_
                  refine zab rfl rfl rfl (zad (.inl rfl) (ev1 rfl)) ?_
                  refine zab rfl rfl rfl ((op_shr (7) rfl (ev1 rfl) (ev1 rfl) (fun _ => ⟨rfl, by decide⟩)).cast (d' := .val (.int .i64 0)) (by kernel_rfl)) ?_
                  refine zab rfl rfl rfl ((op_iand rfl (ev1 rfl) (ev1 rfl)).cast (d' := .val (.int .i64 0)) (by kernel_rfl)) ?_
                  refine zab rfl rfl rfl ((zb rfl (ev1 rfl) (ev1 rfl)).cast (d' := .val (.bool false)) (by kernel_rfl)) ?_
                  refine zab rfl rfl rfl (zad (.inl rfl) (ev1 rfl)) ?_
                  refine zag (zar (b := false) rfl rfl rfl) rfl rfl rfl (zal (d := .junk)) ?_
                  refine zag (zar (b := false) rfl rfl rfl) rfl rfl rfl (zal (d := .junk)) ?_
                  refine zag (zar (b := false) rfl rfl rfl) rfl rfl rfl (zal (d := .junk)) ?_
                  refine zag (zar (b := false) rfl rfl rfl) rfl rfl rfl (zal (d := .val (.bool false))) ?_
                  refine zag (zar (b := false) rfl rfl rfl) rfl rfl rfl (zal (d := .val (.bool false))) ?_
                  refine zab rfl rfl rfl ((zaz rfl (ev1 rfl) (ev3 rfl id)).cast (d' := .val (.bool false)) (by rfl)) ?_
                  refine zab rfl rfl rfl (zad (.inl rfl) (ev1 rfl)) ?_
                  refine zai (zan (b := false) rfl rfl rfl) rfl rfl rfl (zap rfl fo164_0 (ev1 rfl)) (by simp only [upd, za, zaa]; exact rfl) ?_
                  refine zai (zan (b := false) rfl rfl rfl) rfl rfl rfl (zav rfl tb3 (ev2 rfl) rfl rfl) (by simp only [upd, za, zaa]; exact rfl) ?_
                  refine zai (zan (b := false) rfl rfl rfl) rfl rfl rfl (zad (.inl rfl) (ev1 rfl)) (by simp only [upd, za, zaa]; exact rfl) ?_
                  refine zai (zan (b := false) rfl rfl rfl) rfl rfl rfl ((op_shr (7) rfl (ev2 rfl) (ev2 rfl) (fun _ => ⟨rfl, by decide⟩)).cast (d' := .val (.int .i64 0)) (by kernel_rfl)) (by simp only [upd, za, zaa]; exact rfl) ?_
                  refine zai (zan (b := false) rfl rfl rfl) rfl rfl rfl ((op_iand rfl (ev2 rfl) (ev1 rfl)).cast (d' := .val (.int .i64 0)) (by kernel_rfl)) (by simp only [upd, za, zaa]; exact rfl) ?_
                  refine zai (zan (b := false) rfl rfl rfl) rfl rfl rfl ((zb rfl (ev2 rfl) (ev1 rfl)).cast (d' := .val (.bool true)) (by kernel_rfl)) (by simp only [upd, za, zaa]; exact rfl) ?_
                  refine zai (zan (b := false) rfl rfl rfl) rfl rfl rfl (zad (.inl rfl) (ev2 rfl)) (by simp only [upd, za, zaa]; exact rfl) ?_
                  refine zai (zay (g := true) (b := true) rfl rfl rfl) rfl rfl rfl (zap rfl fo172_2 (ev1 rfl)) (by simp only [upd, za, zaa]; exact rfl) ?_
                  refine zai (zay (g := true) (b := true) rfl rfl rfl) rfl rfl rfl (zav rfl tb169 (ev2 rfl) rfl rfl) (by simp only [upd, za, zaa]; exact rfl) ?_
                  refine zai (zay (g := true) (b := true) rfl rfl rfl) rfl rfl rfl (zah [] [0] [] rfl (ev2 rfl) (ec (ev1 rfl) en) rfl rfl (blk7_d _) rfl rfl rfl rfl rfl rfl) (by simp only [upd, za, zaa]; exact rfl) ?_
                  refine zai (zay (g := true) (b := true) rfl rfl rfl) rfl rfl rfl (op_not rfl (ev2 rfl)) (by simp only [upd, za, zaa]; exact rfl) ?_
                  refine zai (zan (b := false) rfl rfl rfl) rfl rfl rfl (zaz rfl (ev2 rfl) (ev3 rfl (fun _ => rfl))) (by simp only [upd, za, zaa]; exact rfl) ?_
                  refine zab rfl rfl rfl (op_or rfl (ev1 rfl) (ev3 rfl (fun _ => rfl))) ?_
                  refine zae ?_
                  refine zaw rfl (fun c17 => ?_) (fun c17 => ?_)
                  · refine zaf ?_
                    refine zac ?_
                    refine zab rfl rfl rfl (zad (.inr rfl) (ev1 rfl)) ?_
                    refine zae ?_
                    refine zau ?_
                    refine kend0 (rs1 rfl (rv_t rfl)) rfl ?_
                    have hb : opB o = false := by
                      unfold opB
                      simp_all [mostK, errz, eqI_dec, errOr_z]
                      all_goals (first | (intros; omega) | (intros; simp_all; done))
                    rw [hb]
                    rfl
                  · refine zak ?_
                    refine zac ?_
                    refine zab rfl rfl rfl ((op_add' rfl (ev1 rfl) (ev1 rfl) (fun _ => IntWalk.i64_in _ (by omega))).cast (d' := .val (.int .i64 8)) (by kernel_rfl)) ?_
                    refine zab rfl rfl rfl (zad (.inl rfl) (ev1 rfl)) ?_
                    refine zae ?_
                    refine dloop_step ?_
                    refine zaf ?_
                    refine zac ?_
                    refine zab rfl rfl rfl ((op_lss rfl (ev1 rfl) (ev1 rfl)).cast (d' := .val (.bool false)) (by kernel_rfl)) ?_
                    refine zae ?_
                    refine zaf ?_
                    refine dwp_if_f rfl (rfl) ?_
                    refine dwp_exit ?_
                    refine zaf ?_
                    refine zac ?_
                    refine zab rfl rfl rfl (zad (.inr rfl) (ev1 rfl)) ?_
                    refine zae ?_
                    refine zau ?_
                    refine kend0 (rs1 rfl (rv_t rfl)) rfl ?_
                    have hb : opB o = true := by
                      unfold opB
                      simp_all [mostK, errz, eqI_dec, errOr_z]
                      all_goals (first | (intros; omega) | (intros; simp_all; done))
                    rw [hb]
                    rfl
set_option maxRecDepth 4000 in
set_option maxHeartbeats 1000000 in
theorem opc_7 (o : OpM) (hk : o.kd = 7) : DFun Tryz.prog 92 [.agg (opD o)] [] (.val (.int .i64 (errOr (opB o) 220))) [] := by
  refine zba (N := 54) 0 (by kernel_rfl) Tryz.func92 rfl rfl rfl (by simp only [fr0, Nat.zero_add, Nat.reduceAdd]; exact rfl) rfl fun s0 hs0 => ?_
  refine zaf ?_
  refine zaj 1 (by simp only [holes, List.cons_append, List.nil_append]; exact rfl) ?_
  refine zac ?_
  refine zam rfl rfl rfl (op_boxam 0 rfl (ev1 rfl) rfl) (by simp only [upd, za, zaa]; exact rfl) ?_
  refine zab rfl rfl rfl (zad (.inr rfl) (ev1 rfl)) ?_
  refine zae ?_
  refine zaf ?_
  refine zaj 1 (by simp only [holes, List.cons_append, List.nil_append]; exact rfl) ?_
  refine zac ?_
  refine zab rfl rfl rfl (zap rfl fo68_1 (ev1 rfl)) ?_
  refine zab rfl rfl rfl ((zav rfl tb3 (ev1 rfl) rfl rfl : DOp _ _ _ _ _ _ (.val (.int .i64 o.kd)) _).cast (d' := .val (.int .i64 7)) (by rw [hk])) ?_
  refine zab rfl rfl rfl (zah [] [] [] rfl (ev1 rfl) (ec (ev1 rfl) en) rfl rfl (kindOf_7) rfl rfl rfl rfl rfl rfl) ?_
  refine zab rfl rfl rfl (zad (.inl rfl) (ev1 rfl)) ?_
  refine zab rfl rfl rfl (op_ext rfl (ev1 rfl) rfl) ?_
  refine zab rfl rfl rfl (op_ext rfl (ev1 rfl) rfl) ?_
  refine zam rfl rfl rfl (zaq 1 rfl zr164 rfl) (by simp only [upd, za, zaa]; exact rfl) ?_
  refine zax rfl rfl (op_stam rfl tb164 (ev1 rfl) (ev1 rfl) rfl rfl rfl rfl) (by simp only [upd, za, zaa]; exact rfl) ?_
  refine zab rfl rfl rfl (zad (.inr rfl) (ev1 rfl)) ?_
  refine zae ?_
  refine zaf ?_
  refine zaf ?_
  refine zac ?_
  refine zab rfl rfl rfl (zad (.inl rfl) (ev1 rfl)) ?_
  refine zab rfl rfl rfl ((op_not rfl (ev1 rfl)).cast (d' := .val (.bool false)) (by kernel_rfl)) ?_
  refine zab rfl rfl rfl (zad (.inl rfl) (ev1 rfl)) ?_
  refine zai (zan (b := false) rfl rfl rfl) rfl rfl rfl (zap rfl fo68_0 (ev1 rfl)) (by simp only [upd, za, zaa]; exact rfl) ?_
  refine zai (zan (b := false) rfl rfl rfl) rfl rfl rfl (op_ldmv (R := [_, _, _]) rfl tb61 (ev2 rfl) rfl rfl rfl) (by simp only [upd, za, zaa]; exact rfl) ?_
  refine zai (zan (b := false) rfl rfl rfl) rfl rfl rfl (zah [] [] [] rfl (ev1 rfl) (ec (ev2 rfl) en) rfl rfl (idCheck_d _) rfl rfl rfl rfl rfl rfl) (by simp only [upd, za, zaa]; exact rfl) ?_
  refine zai (zan (b := false) rfl rfl rfl) rfl rfl rfl (op_neq rfl (ev2 rfl) (ev1 rfl)) (by simp only [upd, za, zaa]; exact rfl) ?_
  refine zab rfl rfl rfl (op_or rfl (ev1 rfl) (ev3 rfl (fun _ => rfl))) ?_
  refine zae ?_
  refine zaw rfl (fun c1 => ?_) (fun c1 => ?_)
  · refine zaf ?_
    refine zac ?_
    refine zab rfl rfl rfl (zad (.inr rfl) (ev1 rfl)) ?_
    refine zae ?_
    refine zau ?_
    refine kend0 (rs1 rfl (rv_t rfl)) rfl ?_
    have hb : opB o = false := by
      unfold opB
      simp_all [mostK, errz, eqI_dec, errOr_z]
      all_goals (first | (intros; omega) | (intros; simp_all; done))
    rw [hb]
    rfl
  · refine zak ?_
    refine zaf ?_
    refine zaf ?_
    refine zac ?_
    refine zab rfl rfl rfl (zah [] [] [] rfl (ev1 rfl) en rfl rfl (fields_d) rfl rfl rfl rfl rfl rfl) ?_
    refine zab rfl rfl rfl (zad (.inl rfl) (ev1 rfl)) ?_
    refine zae ?_
    refine zat ?_
    refine dwp_dloop (dloop_step ?_)
    refine zaf ?_
    refine zac ?_
    refine zab rfl rfl rfl ((op_lss rfl (ev1 rfl) (ev1 rfl)).cast (d' := .val (.bool true)) (by kernel_rfl)) ?_
    refine zae ?_
    refine zaf ?_
    refine dwp_if_t rfl (rfl) ?_
    refine zak ?_
    refine zaf ?_
    refine zat ?_
    refine zaf ?_
    refine zaj 1 (by simp only [holes, List.cons_append, List.nil_append]; exact rfl) ?_
    refine zac ?_
    refine zab rfl rfl rfl (zad (.inl rfl) (ev1 rfl)) ?_
    refine zab rfl rfl rfl (op_ixwr (0) rfl av173 (ev1 rfl) (ev1 rfl) (fun _ => rfl) (fun _ => by decide) (Nat.le_of_ble_eq_true rfl)) ?_
    refine zam rfl rfl rfl (zaq 2 rfl zr172 rfl) (by simp only [upd, za, zaa]; exact rfl) ?_
    refine zab rfl rfl rfl (zad (.inr rfl) (ev1 rfl)) ?_
    refine zax rfl rfl (op_stam rfl tb172 (ev1 rfl) (ev1 rfl) rfl rfl rfl rfl) (by simp only [upd, za, zaa]; exact rfl) ?_
    refine zae ?_
    refine zaf ?_
    refine zac ?_
    refine zab rfl rfl rfl (zap rfl fo164_0 (ev1 rfl)) ?_
    refine zab rfl rfl rfl (zav rfl tb3 (ev1 rfl) rfl rfl) ?_
    refine zab rfl rfl rfl (zad (.inl rfl) (ev1 rfl)) ?_
    refine zab rfl rfl rfl ((op_shr (0) rfl (ev1 rfl) (ev1 rfl) (fun _ => ⟨rfl, by decide⟩)).cast (d' := .val (.int .i64 128)) (by kernel_rfl)) ?_
    refine zab rfl rfl rfl ((op_iand rfl (ev1 rfl) (ev1 rfl)).cast (d' := .val (.int .i64 0)) (by kernel_rfl)) ?_
    refine zab rfl rfl rfl ((zb rfl (ev1 rfl) (ev1 rfl)).cast (d' := .val (.bool false)) (by kernel_rfl)) ?_
    refine zab rfl rfl rfl (zad (.inl rfl) (ev1 rfl)) ?_
    refine zag (zar (b := false) rfl rfl rfl) rfl rfl rfl (zal (d := .junk)) ?_
    refine zag (zar (b := false) rfl rfl rfl) rfl rfl rfl (zal (d := .junk)) ?_
    refine zag (zar (b := false) rfl rfl rfl) rfl rfl rfl (zal (d := .junk)) ?_
    refine zag (zar (b := false) rfl rfl rfl) rfl rfl rfl (zal (d := .val (.bool false))) ?_
    refine zag (zar (b := false) rfl rfl rfl) rfl rfl rfl (zal (d := .val (.bool false))) ?_
    refine zab rfl rfl rfl ((zaz rfl (ev1 rfl) (ev3 rfl id)).cast (d' := .val (.bool false)) (by rfl)) ?_
    refine zab rfl rfl rfl (zad (.inl rfl) (ev1 rfl)) ?_
    refine zai (zan (b := false) rfl rfl rfl) rfl rfl rfl (zap rfl fo164_0 (ev1 rfl)) (by simp only [upd, za, zaa]; exact rfl) ?_
    refine zai (zan (b := false) rfl rfl rfl) rfl rfl rfl (zav rfl tb3 (ev2 rfl) rfl rfl) (by simp only [upd, za, zaa]; exact rfl) ?_
    refine zai (zan (b := false) rfl rfl rfl) rfl rfl rfl (zad (.inl rfl) (ev1 rfl)) (by simp only [upd, za, zaa]; exact rfl) ?_
    refine zai (zan (b := false) rfl rfl rfl) rfl rfl rfl ((op_shr (0) rfl (ev2 rfl) (ev2 rfl) (fun _ => ⟨rfl, by decide⟩)).cast (d' := .val (.int .i64 128)) (by kernel_rfl)) (by simp only [upd, za, zaa]; exact rfl) ?_
    refine zai (zan (b := false) rfl rfl rfl) rfl rfl rfl ((op_iand rfl (ev2 rfl) (ev1 rfl)).cast (d' := .val (.int .i64 0)) (by kernel_rfl)) (by simp only [upd, za, zaa]; exact rfl) ?_
    refine zai (zan (b := false) rfl rfl rfl) rfl rfl rfl ((zb rfl (ev2 rfl) (ev1 rfl)).cast (d' := .val (.bool true)) (by kernel_rfl)) (by simp only [upd, za, zaa]; exact rfl) ?_
    refine zai (zan (b := false) rfl rfl rfl) rfl rfl rfl (zad (.inl rfl) (ev2 rfl)) (by simp only [upd, za, zaa]; exact rfl) ?_
    refine zai (zay (g := true) (b := true) rfl rfl rfl) rfl rfl rfl (zap rfl fo172_2 (ev1 rfl)) (by simp only [upd, za, zaa]; exact rfl) ?_
    refine zai (zay (g := true) (b := true) rfl rfl rfl) rfl rfl rfl (zav rfl tb169 (ev2 rfl) rfl rfl) (by simp only [upd, za, zaa]; exact rfl) ?_
    refine zai (zay (g := true) (b := true) rfl rfl rfl) rfl rfl rfl (zah [] [0] [] rfl (ev2 rfl) (ec (ev1 rfl) en) rfl rfl (blk0_d _) rfl rfl rfl rfl rfl rfl) (by simp only [upd, za, zaa]; exact rfl) ?_
    refine zai (zay (g := true) (b := true) rfl rfl rfl) rfl rfl rfl (op_not rfl (ev2 rfl)) (by simp only [upd, za, zaa]; exact rfl) ?_
    refine zai (zan (b := false) rfl rfl rfl) rfl rfl rfl (zaz rfl (ev2 rfl) (ev3 rfl (fun _ => rfl))) (by simp only [upd, za, zaa]; exact rfl) ?_
    refine zab rfl rfl rfl (op_or rfl (ev1 rfl) (ev3 rfl (fun _ => rfl))) ?_
    refine zae ?_
    refine zaw rfl (fun c3 => ?_) (fun c3 => ?_)
    · refine zaf ?_
      refine zac ?_
      refine zab rfl rfl rfl (zad (.inr rfl) (ev1 rfl)) ?_
      refine zae ?_
      refine zau ?_
      refine kend0 (rs1 rfl (rv_t rfl)) rfl ?_
      have hb : opB o = false := by
        unfold opB
        simp_all [mostK, errz, eqI_dec, errOr_z]
        all_goals (first | (intros; omega) | (intros; simp_all; done))
      rw [hb]
      rfl
    · refine zak ?_
      refine zac ?_
      refine zab rfl rfl rfl ((op_add' rfl (ev1 rfl) (ev1 rfl) (fun _ => IntWalk.i64_in _ (by omega))).cast (d' := .val (.int .i64 1)) (by kernel_rfl)) ?_
      refine zab rfl rfl rfl (zad (.inl rfl) (ev1 rfl)) ?_
      refine zae ?_
      refine dloop_step ?_
      refine zaf ?_
      refine zac ?_
      refine zab rfl rfl rfl ((op_lss rfl (ev1 rfl) (ev1 rfl)).cast (d' := .val (.bool true)) (by kernel_rfl)) ?_
      refine zae ?_
      refine zaf ?_
      refine dwp_if_t rfl (rfl) ?_
      refine zak ?_
      refine zaf ?_
      refine zat ?_
      refine zaf ?_
      refine zaj 1 (by simp only [holes, List.cons_append, List.nil_append]; exact rfl) ?_
      refine zac ?_
      refine zab rfl rfl rfl (zad (.inl rfl) (ev1 rfl)) ?_
      refine zab rfl rfl rfl (op_ixwr (1) rfl av173 (ev1 rfl) (ev1 rfl) (fun _ => rfl) (fun _ => by decide) (Nat.le_of_ble_eq_true rfl)) ?_
      refine zam rfl rfl rfl (zaq 3 rfl zr172 rfl) (by simp only [upd, za, zaa]; exact rfl) ?_
      refine zab rfl rfl rfl (zad (.inr rfl) (ev1 rfl)) ?_
      refine zax rfl rfl (op_stam rfl tb172 (ev1 rfl) (ev1 rfl) rfl rfl rfl rfl) (by simp only [upd, za, zaa]; exact rfl) ?_
      refine zae ?_
      refine zaf ?_
      refine zac ?_
      refine zab rfl rfl rfl (zap rfl fo164_0 (ev1 rfl)) ?_
      refine zab rfl rfl rfl (zav rfl tb3 (ev1 rfl) rfl rfl) ?_
      refine zab rfl rfl rfl (zad (.inl rfl) (ev1 rfl)) ?_
      refine zab rfl rfl rfl ((op_shr (1) rfl (ev1 rfl) (ev1 rfl) (fun _ => ⟨rfl, by decide⟩)).cast (d' := .val (.int .i64 64)) (by kernel_rfl)) ?_
      refine zab rfl rfl rfl ((op_iand rfl (ev1 rfl) (ev1 rfl)).cast (d' := .val (.int .i64 0)) (by kernel_rfl)) ?_
      refine zab rfl rfl rfl ((zb rfl (ev1 rfl) (ev1 rfl)).cast (d' := .val (.bool false)) (by kernel_rfl)) ?_
      refine zab rfl rfl rfl (zad (.inl rfl) (ev1 rfl)) ?_
      refine zag (zar (b := false) rfl rfl rfl) rfl rfl rfl (zal (d := .junk)) ?_
      refine zag (zar (b := false) rfl rfl rfl) rfl rfl rfl (zal (d := .junk)) ?_
      refine zag (zar (b := false) rfl rfl rfl) rfl rfl rfl (zal (d := .junk)) ?_
      refine zag (zar (b := false) rfl rfl rfl) rfl rfl rfl (zal (d := .val (.bool false))) ?_
      refine zag (zar (b := false) rfl rfl rfl) rfl rfl rfl (zal (d := .val (.bool false))) ?_
      refine zab rfl rfl rfl ((zaz rfl (ev1 rfl) (ev3 rfl id)).cast (d' := .val (.bool false)) (by rfl)) ?_
      refine zab rfl rfl rfl (zad (.inl rfl) (ev1 rfl)) ?_
      refine zai (zan (b := false) rfl rfl rfl) rfl rfl rfl (zap rfl fo164_0 (ev1 rfl)) (by simp only [upd, za, zaa]; exact rfl) ?_
      refine zai (zan (b := false) rfl rfl rfl) rfl rfl rfl (zav rfl tb3 (ev2 rfl) rfl rfl) (by simp only [upd, za, zaa]; exact rfl) ?_
      refine zai (zan (b := false) rfl rfl rfl) rfl rfl rfl (zad (.inl rfl) (ev1 rfl)) (by simp only [upd, za, zaa]; exact rfl) ?_
      refine zai (zan (b := false) rfl rfl rfl) rfl rfl rfl ((op_shr (1) rfl (ev2 rfl) (ev2 rfl) (fun _ => ⟨rfl, by decide⟩)).cast (d' := .val (.int .i64 64)) (by kernel_rfl)) (by simp only [upd, za, zaa]; exact rfl) ?_
      refine zai (zan (b := false) rfl rfl rfl) rfl rfl rfl ((op_iand rfl (ev2 rfl) (ev1 rfl)).cast (d' := .val (.int .i64 0)) (by kernel_rfl)) (by simp only [upd, za, zaa]; exact rfl) ?_
      refine zai (zan (b := false) rfl rfl rfl) rfl rfl rfl ((zb rfl (ev2 rfl) (ev1 rfl)).cast (d' := .val (.bool true)) (by kernel_rfl)) (by simp only [upd, za, zaa]; exact rfl) ?_
      refine zai (zan (b := false) rfl rfl rfl) rfl rfl rfl (zad (.inl rfl) (ev2 rfl)) (by simp only [upd, za, zaa]; exact rfl) ?_
      refine zai (zay (g := true) (b := true) rfl rfl rfl) rfl rfl rfl (zap rfl fo172_2 (ev1 rfl)) (by simp only [upd, za, zaa]; exact rfl) ?_
      refine zai (zay (g := true) (b := true) rfl rfl rfl) rfl rfl rfl (zav rfl tb169 (ev2 rfl) rfl rfl) (by simp only [upd, za, zaa]; exact rfl) ?_
      refine zai (zay (g := true) (b := true) rfl rfl rfl) rfl rfl rfl (zah [] [0] [] rfl (ev2 rfl) (ec (ev1 rfl) en) rfl rfl (blk1_d _) rfl rfl rfl rfl rfl rfl) (by simp only [upd, za, zaa]; exact rfl) ?_
      refine zai (zay (g := true) (b := true) rfl rfl rfl) rfl rfl rfl (op_not rfl (ev2 rfl)) (by simp only [upd, za, zaa]; exact rfl) ?_
      refine zai (zan (b := false) rfl rfl rfl) rfl rfl rfl (zaz rfl (ev2 rfl) (ev3 rfl (fun _ => rfl))) (by simp only [upd, za, zaa]; exact rfl) ?_
      refine zab rfl rfl rfl (op_or rfl (ev1 rfl) (ev3 rfl (fun _ => rfl))) ?_
      refine zae ?_
      refine zaw rfl (fun c5 => ?_) (fun c5 => ?_)
      · refine zaf ?_
        refine zac ?_
        refine zab rfl rfl rfl (zad (.inr rfl) (ev1 rfl)) ?_
        refine zae ?_
        refine zau ?_
        refine kend0 (rs1 rfl (rv_t rfl)) rfl ?_
        have hb : opB o = false := by
          unfold opB
          simp_all [mostK, errz, eqI_dec, errOr_z]
          all_goals (first | (intros; omega) | (intros; simp_all; done))
        rw [hb]
        rfl
      · refine zak ?_
        refine zac ?_
        refine zab rfl rfl rfl ((op_add' rfl (ev1 rfl) (ev1 rfl) (fun _ => IntWalk.i64_in _ (by omega))).cast (d' := .val (.int .i64 2)) (by kernel_rfl)) ?_
        refine zab rfl rfl rfl (zad (.inl rfl) (ev1 rfl)) ?_
        refine zae ?_
        refine dloop_step ?_
        refine zaf ?_
        refine zac ?_
        refine zab rfl rfl rfl ((op_lss rfl (ev1 rfl) (ev1 rfl)).cast (d' := .val (.bool true)) (by kernel_rfl)) ?_
        refine zae ?_
        refine zaf ?_
        refine dwp_if_t rfl (rfl) ?_
        refine zak ?_
        refine zaf ?_
        refine zat ?_
        refine zaf ?_
        refine zaj 1 (by simp only [holes, List.cons_append, List.nil_append]; exact rfl) ?_
        refine zac ?_
        refine zab rfl rfl rfl (zad (.inl rfl) (ev1 rfl)) ?_
        refine zab rfl rfl rfl (op_ixwr (2) rfl av173 (ev1 rfl) (ev1 rfl) (fun _ => rfl) (fun _ => by decide) (Nat.le_of_ble_eq_true rfl)) ?_
        refine zam rfl rfl rfl (zaq 4 rfl zr172 rfl) (by simp only [upd, za, zaa]; exact rfl) ?_
        refine zab rfl rfl rfl (zad (.inr rfl) (ev1 rfl)) ?_
        refine zax rfl rfl (op_stam rfl tb172 (ev1 rfl) (ev1 rfl) rfl rfl rfl rfl) (by simp only [upd, za, zaa]; exact rfl) ?_
        refine zae ?_
        refine zaf ?_
        refine zac ?_
        refine zab rfl rfl rfl (zap rfl fo164_0 (ev1 rfl)) ?_
        refine zab rfl rfl rfl (zav rfl tb3 (ev1 rfl) rfl rfl) ?_
        refine zab rfl rfl rfl (zad (.inl rfl) (ev1 rfl)) ?_
        refine zab rfl rfl rfl ((op_shr (2) rfl (ev1 rfl) (ev1 rfl) (fun _ => ⟨rfl, by decide⟩)).cast (d' := .val (.int .i64 32)) (by kernel_rfl)) ?_
        refine zab rfl rfl rfl ((op_iand rfl (ev1 rfl) (ev1 rfl)).cast (d' := .val (.int .i64 0)) (by kernel_rfl)) ?_
        refine zab rfl rfl rfl ((zb rfl (ev1 rfl) (ev1 rfl)).cast (d' := .val (.bool false)) (by kernel_rfl)) ?_
        refine zab rfl rfl rfl (zad (.inl rfl) (ev1 rfl)) ?_
        refine zag (zar (b := false) rfl rfl rfl) rfl rfl rfl (zal (d := .junk)) ?_
        refine zag (zar (b := false) rfl rfl rfl) rfl rfl rfl (zal (d := .junk)) ?_
        refine zag (zar (b := false) rfl rfl rfl) rfl rfl rfl (zal (d := .junk)) ?_
        refine zag (zar (b := false) rfl rfl rfl) rfl rfl rfl (zal (d := .val (.bool false))) ?_
        refine zag (zar (b := false) rfl rfl rfl) rfl rfl rfl (zal (d := .val (.bool false))) ?_
        refine zab rfl rfl rfl ((zaz rfl (ev1 rfl) (ev3 rfl id)).cast (d' := .val (.bool false)) (by rfl)) ?_
        refine zab rfl rfl rfl (zad (.inl rfl) (ev1 rfl)) ?_
        refine zai (zan (b := false) rfl rfl rfl) rfl rfl rfl (zap rfl fo164_0 (ev1 rfl)) (by simp only [upd, za, zaa]; exact rfl) ?_
        refine zai (zan (b := false) rfl rfl rfl) rfl rfl rfl (zav rfl tb3 (ev2 rfl) rfl rfl) (by simp only [upd, za, zaa]; exact rfl) ?_
        refine zai (zan (b := false) rfl rfl rfl) rfl rfl rfl (zad (.inl rfl) (ev1 rfl)) (by simp only [upd, za, zaa]; exact rfl) ?_
        refine zai (zan (b := false) rfl rfl rfl) rfl rfl rfl ((op_shr (2) rfl (ev2 rfl) (ev2 rfl) (fun _ => ⟨rfl, by decide⟩)).cast (d' := .val (.int .i64 32)) (by kernel_rfl)) (by simp only [upd, za, zaa]; exact rfl) ?_
        refine zai (zan (b := false) rfl rfl rfl) rfl rfl rfl ((op_iand rfl (ev2 rfl) (ev1 rfl)).cast (d' := .val (.int .i64 0)) (by kernel_rfl)) (by simp only [upd, za, zaa]; exact rfl) ?_
        refine zai (zan (b := false) rfl rfl rfl) rfl rfl rfl ((zb rfl (ev2 rfl) (ev1 rfl)).cast (d' := .val (.bool true)) (by kernel_rfl)) (by simp only [upd, za, zaa]; exact rfl) ?_
        refine zai (zan (b := false) rfl rfl rfl) rfl rfl rfl (zad (.inl rfl) (ev2 rfl)) (by simp only [upd, za, zaa]; exact rfl) ?_
        refine zai (zay (g := true) (b := true) rfl rfl rfl) rfl rfl rfl (zap rfl fo172_2 (ev1 rfl)) (by simp only [upd, za, zaa]; exact rfl) ?_
        refine zai (zay (g := true) (b := true) rfl rfl rfl) rfl rfl rfl (zav rfl tb169 (ev2 rfl) rfl rfl) (by simp only [upd, za, zaa]; exact rfl) ?_
        refine zai (zay (g := true) (b := true) rfl rfl rfl) rfl rfl rfl (zah [] [0] [] rfl (ev2 rfl) (ec (ev1 rfl) en) rfl rfl (blk2_d _) rfl rfl rfl rfl rfl rfl) (by simp only [upd, za, zaa]; exact rfl) ?_
        refine zai (zay (g := true) (b := true) rfl rfl rfl) rfl rfl rfl (op_not rfl (ev2 rfl)) (by simp only [upd, za, zaa]; exact rfl) ?_
        refine zai (zan (b := false) rfl rfl rfl) rfl rfl rfl (zaz rfl (ev2 rfl) (ev3 rfl (fun _ => rfl))) (by simp only [upd, za, zaa]; exact rfl) ?_
        refine zab rfl rfl rfl (op_or rfl (ev1 rfl) (ev3 rfl (fun _ => rfl))) ?_
        refine zae ?_
        refine zaw rfl (fun c7 => ?_) (fun c7 => ?_)
        · refine zaf ?_
          refine zac ?_
          refine zab rfl rfl rfl (zad (.inr rfl) (ev1 rfl)) ?_
          refine zae ?_
          refine zau ?_
          refine kend0 (rs1 rfl (rv_t rfl)) rfl ?_
          have hb : opB o = false := by
            unfold opB
            simp_all [mostK, errz, eqI_dec, errOr_z]
            all_goals (first | (intros; omega) | (intros; simp_all; done))
          rw [hb]
          rfl
        · refine zak ?_
          refine zac ?_
          refine zab rfl rfl rfl ((op_add' rfl (ev1 rfl) (ev1 rfl) (fun _ => IntWalk.i64_in _ (by omega))).cast (d' := .val (.int .i64 3)) (by kernel_rfl)) ?_
          refine zab rfl rfl rfl (zad (.inl rfl) (ev1 rfl)) ?_
          refine zae ?_
          refine dloop_step ?_
          refine zaf ?_
          refine zac ?_
          refine zab rfl rfl rfl ((op_lss rfl (ev1 rfl) (ev1 rfl)).cast (d' := .val (.bool true)) (by kernel_rfl)) ?_
          refine zae ?_
          refine zaf ?_
          refine dwp_if_t rfl (rfl) ?_
          refine zak ?_
          refine zaf ?_
          refine zat ?_
          refine zaf ?_
          refine zaj 1 (by simp only [holes, List.cons_append, List.nil_append]; exact rfl) ?_
          refine zac ?_
          refine zab rfl rfl rfl (zad (.inl rfl) (ev1 rfl)) ?_
          refine zab rfl rfl rfl (op_ixwr (3) rfl av173 (ev1 rfl) (ev1 rfl) (fun _ => rfl) (fun _ => by decide) (Nat.le_of_ble_eq_true rfl)) ?_
          refine zam rfl rfl rfl (zaq 5 rfl zr172 rfl) (by simp only [upd, za, zaa]; exact rfl) ?_
          refine zab rfl rfl rfl (zad (.inr rfl) (ev1 rfl)) ?_
          refine zax rfl rfl (op_stam rfl tb172 (ev1 rfl) (ev1 rfl) rfl rfl rfl rfl) (by simp only [upd, za, zaa]; exact rfl) ?_
          refine zae ?_
          refine zaf ?_
          refine zac ?_
          refine zab rfl rfl rfl (zap rfl fo164_0 (ev1 rfl)) ?_
          refine zab rfl rfl rfl (zav rfl tb3 (ev1 rfl) rfl rfl) ?_
          refine zab rfl rfl rfl (zad (.inl rfl) (ev1 rfl)) ?_
          refine zab rfl rfl rfl ((op_shr (3) rfl (ev1 rfl) (ev1 rfl) (fun _ => ⟨rfl, by decide⟩)).cast (d' := .val (.int .i64 16)) (by kernel_rfl)) ?_
          refine zab rfl rfl rfl ((op_iand rfl (ev1 rfl) (ev1 rfl)).cast (d' := .val (.int .i64 0)) (by kernel_rfl)) ?_
          refine zab rfl rfl rfl ((zb rfl (ev1 rfl) (ev1 rfl)).cast (d' := .val (.bool false)) (by kernel_rfl)) ?_
          refine zab rfl rfl rfl (zad (.inl rfl) (ev1 rfl)) ?_
          refine zag (zar (b := false) rfl rfl rfl) rfl rfl rfl (zal (d := .junk)) ?_
          refine zag (zar (b := false) rfl rfl rfl) rfl rfl rfl (zal (d := .junk)) ?_
          refine zag (zar (b := false) rfl rfl rfl) rfl rfl rfl (zal (d := .junk)) ?_
          refine zag (zar (b := false) rfl rfl rfl) rfl rfl rfl (zal (d := .val (.bool false))) ?_
          refine zag (zar (b := false) rfl rfl rfl) rfl rfl rfl (zal (d := .val (.bool false))) ?_
          refine zab rfl rfl rfl ((zaz rfl (ev1 rfl) (ev3 rfl id)).cast (d' := .val (.bool false)) (by rfl)) ?_
          refine zab rfl rfl rfl (zad (.inl rfl) (ev1 rfl)) ?_
          refine zai (zan (b := false) rfl rfl rfl) rfl rfl rfl (zap rfl fo164_0 (ev1 rfl)) (by simp only [upd, za, zaa]; exact rfl) ?_
          refine zai (zan (b := false) rfl rfl rfl) rfl rfl rfl (zav rfl tb3 (ev2 rfl) rfl rfl) (by simp only [upd, za, zaa]; exact rfl) ?_
          refine zai (zan (b := false) rfl rfl rfl) rfl rfl rfl (zad (.inl rfl) (ev1 rfl)) (by simp only [upd, za, zaa]; exact rfl) ?_
          refine zai (zan (b := false) rfl rfl rfl) rfl rfl rfl ((op_shr (3) rfl (ev2 rfl) (ev2 rfl) (fun _ => ⟨rfl, by decide⟩)).cast (d' := .val (.int .i64 16)) (by kernel_rfl)) (by simp only [upd, za, zaa]; exact rfl) ?_
          refine zai (zan (b := false) rfl rfl rfl) rfl rfl rfl ((op_iand rfl (ev2 rfl) (ev1 rfl)).cast (d' := .val (.int .i64 0)) (by kernel_rfl)) (by simp only [upd, za, zaa]; exact rfl) ?_
          refine zai (zan (b := false) rfl rfl rfl) rfl rfl rfl ((zb rfl (ev2 rfl) (ev1 rfl)).cast (d' := .val (.bool true)) (by kernel_rfl)) (by simp only [upd, za, zaa]; exact rfl) ?_
          refine zai (zan (b := false) rfl rfl rfl) rfl rfl rfl (zad (.inl rfl) (ev2 rfl)) (by simp only [upd, za, zaa]; exact rfl) ?_
          refine zai (zay (g := true) (b := true) rfl rfl rfl) rfl rfl rfl (zap rfl fo172_2 (ev1 rfl)) (by simp only [upd, za, zaa]; exact rfl) ?_
          refine zai (zay (g := true) (b := true) rfl rfl rfl) rfl rfl rfl (zav rfl tb169 (ev2 rfl) rfl rfl) (by simp only [upd, za, zaa]; exact rfl) ?_
          refine zai (zay (g := true) (b := true) rfl rfl rfl) rfl rfl rfl (zah [] [0] [] rfl (ev2 rfl) (ec (ev1 rfl) en) rfl rfl (blk3_d _) rfl rfl rfl rfl rfl rfl) (by simp only [upd, za, zaa]; exact rfl) ?_
          refine zai (zay (g := true) (b := true) rfl rfl rfl) rfl rfl rfl (op_not rfl (ev2 rfl)) (by simp only [upd, za, zaa]; exact rfl) ?_
          refine zai (zan (b := false) rfl rfl rfl) rfl rfl rfl (zaz rfl (ev2 rfl) (ev3 rfl (fun _ => rfl))) (by simp only [upd, za, zaa]; exact rfl) ?_
          refine zab rfl rfl rfl (op_or rfl (ev1 rfl) (ev3 rfl (fun _ => rfl))) ?_
          refine zae ?_
          refine zaw rfl (fun c9 => ?_) (fun c9 => ?_)
          · refine zaf ?_
            refine zac ?_
            refine zab rfl rfl rfl (zad (.inr rfl) (ev1 rfl)) ?_
            refine zae ?_
            refine zau ?_
            refine kend0 (rs1 rfl (rv_t rfl)) rfl ?_
            have hb : opB o = false := by
              unfold opB
              simp_all [mostK, errz, eqI_dec, errOr_z]
              all_goals (first | (intros; omega) | (intros; simp_all; done))
            rw [hb]
            rfl
          · refine zak ?_
            refine zac ?_
            refine zab rfl rfl rfl ((op_add' rfl (ev1 rfl) (ev1 rfl) (fun _ => IntWalk.i64_in _ (by omega))).cast (d' := .val (.int .i64 4)) (by kernel_rfl)) ?_
            refine zab rfl rfl rfl (zad (.inl rfl) (ev1 rfl)) ?_
            refine zae ?_
            refine dloop_step ?_
            refine zaf ?_
            refine zac ?_
            refine zab rfl rfl rfl ((op_lss rfl (ev1 rfl) (ev1 rfl)).cast (d' := .val (.bool true)) (by kernel_rfl)) ?_
            refine zae ?_
            refine zaf ?_
            refine dwp_if_t rfl (rfl) ?_
            refine zak ?_
            refine zaf ?_
            refine zat ?_
            refine zaf ?_
            refine zaj 1 (by simp only [holes, List.cons_append, List.nil_append]; exact rfl) ?_
            refine zac ?_
            refine zab rfl rfl rfl (zad (.inl rfl) (ev1 rfl)) ?_
            refine zab rfl rfl rfl (op_ixwr (4) rfl av173 (ev1 rfl) (ev1 rfl) (fun _ => rfl) (fun _ => by decide) (Nat.le_of_ble_eq_true rfl)) ?_
            refine zam rfl rfl rfl (zaq 6 rfl zr172 rfl) (by simp only [upd, za, zaa]; exact rfl) ?_
            refine zab rfl rfl rfl (zad (.inr rfl) (ev1 rfl)) ?_
            refine zax rfl rfl (op_stam rfl tb172 (ev1 rfl) (ev1 rfl) rfl rfl rfl rfl) (by simp only [upd, za, zaa]; exact rfl) ?_
            refine zae ?_
            refine zaf ?_
            refine zac ?_
            refine zab rfl rfl rfl (zap rfl fo164_0 (ev1 rfl)) ?_
            refine zab rfl rfl rfl (zav rfl tb3 (ev1 rfl) rfl rfl) ?_
            refine zab rfl rfl rfl (zad (.inl rfl) (ev1 rfl)) ?_
            refine zab rfl rfl rfl ((op_shr (4) rfl (ev1 rfl) (ev1 rfl) (fun _ => ⟨rfl, by decide⟩)).cast (d' := .val (.int .i64 8)) (by kernel_rfl)) ?_
            refine zab rfl rfl rfl ((op_iand rfl (ev1 rfl) (ev1 rfl)).cast (d' := .val (.int .i64 0)) (by kernel_rfl)) ?_
            refine zab rfl rfl rfl ((zb rfl (ev1 rfl) (ev1 rfl)).cast (d' := .val (.bool false)) (by kernel_rfl)) ?_
            refine zab rfl rfl rfl (zad (.inl rfl) (ev1 rfl)) ?_
            refine zag (zar (b := false) rfl rfl rfl) rfl rfl rfl (zal (d := .junk)) ?_
            refine zag (zar (b := false) rfl rfl rfl) rfl rfl rfl (zal (d := .junk)) ?_
            refine zag (zar (b := false) rfl rfl rfl) rfl rfl rfl (zal (d := .junk)) ?_
            refine zag (zar (b := false) rfl rfl rfl) rfl rfl rfl (zal (d := .val (.bool false))) ?_
            refine zag (zar (b := false) rfl rfl rfl) rfl rfl rfl (zal (d := .val (.bool false))) ?_
            refine zab rfl rfl rfl ((zaz rfl (ev1 rfl) (ev3 rfl id)).cast (d' := .val (.bool false)) (by rfl)) ?_
            refine zab rfl rfl rfl (zad (.inl rfl) (ev1 rfl)) ?_
            refine zai (zan (b := false) rfl rfl rfl) rfl rfl rfl (zap rfl fo164_0 (ev1 rfl)) (by simp only [upd, za, zaa]; exact rfl) ?_
            refine zai (zan (b := false) rfl rfl rfl) rfl rfl rfl (zav rfl tb3 (ev2 rfl) rfl rfl) (by simp only [upd, za, zaa]; exact rfl) ?_
            refine zai (zan (b := false) rfl rfl rfl) rfl rfl rfl (zad (.inl rfl) (ev1 rfl)) (by simp only [upd, za, zaa]; exact rfl) ?_
            refine zai (zan (b := false) rfl rfl rfl) rfl rfl rfl ((op_shr (4) rfl (ev2 rfl) (ev2 rfl) (fun _ => ⟨rfl, by decide⟩)).cast (d' := .val (.int .i64 8)) (by kernel_rfl)) (by simp only [upd, za, zaa]; exact rfl) ?_
            refine zai (zan (b := false) rfl rfl rfl) rfl rfl rfl ((op_iand rfl (ev2 rfl) (ev1 rfl)).cast (d' := .val (.int .i64 0)) (by kernel_rfl)) (by simp only [upd, za, zaa]; exact rfl) ?_
            refine zai (zan (b := false) rfl rfl rfl) rfl rfl rfl ((zb rfl (ev2 rfl) (ev1 rfl)).cast (d' := .val (.bool true)) (by kernel_rfl)) (by simp only [upd, za, zaa]; exact rfl) ?_
            refine zai (zan (b := false) rfl rfl rfl) rfl rfl rfl (zad (.inl rfl) (ev2 rfl)) (by simp only [upd, za, zaa]; exact rfl) ?_
            refine zai (zay (g := true) (b := true) rfl rfl rfl) rfl rfl rfl (zap rfl fo172_2 (ev1 rfl)) (by simp only [upd, za, zaa]; exact rfl) ?_
            refine zai (zay (g := true) (b := true) rfl rfl rfl) rfl rfl rfl (zav rfl tb169 (ev2 rfl) rfl rfl) (by simp only [upd, za, zaa]; exact rfl) ?_
            refine zai (zay (g := true) (b := true) rfl rfl rfl) rfl rfl rfl (zah [] [0] [] rfl (ev2 rfl) (ec (ev1 rfl) en) rfl rfl (blk4_d _) rfl rfl rfl rfl rfl rfl) (by simp only [upd, za, zaa]; exact rfl) ?_
            refine zai (zay (g := true) (b := true) rfl rfl rfl) rfl rfl rfl (op_not rfl (ev2 rfl)) (by simp only [upd, za, zaa]; exact rfl) ?_
            refine zai (zan (b := false) rfl rfl rfl) rfl rfl rfl (zaz rfl (ev2 rfl) (ev3 rfl (fun _ => rfl))) (by simp only [upd, za, zaa]; exact rfl) ?_
            refine zab rfl rfl rfl (op_or rfl (ev1 rfl) (ev3 rfl (fun _ => rfl))) ?_
            refine zae ?_
            refine zaw rfl (fun c11 => ?_) (fun c11 => ?_)
            · refine zaf ?_
              refine zac ?_
              refine zab rfl rfl rfl (zad (.inr rfl) (ev1 rfl)) ?_
              refine zae ?_
              refine zau ?_
              refine kend0 (rs1 rfl (rv_t rfl)) rfl ?_
              have hb : opB o = false := by
                unfold opB
                simp_all [mostK, errz, eqI_dec, errOr_z]
                all_goals (first | (intros; omega) | (intros; simp_all; done))
              rw [hb]
              rfl
            · refine zak ?_
              refine zac ?_
              refine zab rfl rfl rfl ((op_add' rfl (ev1 rfl) (ev1 rfl) (fun _ => IntWalk.i64_in _ (by omega))).cast (d' := .val (.int .i64 5)) (by kernel_rfl)) ?_
              refine zab rfl rfl rfl (zad (.inl rfl) (ev1 rfl)) ?_
              refine zae ?_
              refine dloop_step ?_
              refine zaf ?_
              refine zac ?_
              refine zab rfl rfl rfl ((op_lss rfl (ev1 rfl) (ev1 rfl)).cast (d' := .val (.bool true)) (by kernel_rfl)) ?_
              refine zae ?_
              refine zaf ?_
              refine dwp_if_t rfl (rfl) ?_
              refine zak ?_
              refine zaf ?_
              refine zat ?_
              refine zaf ?_
              refine zaj 1 (by simp only [holes, List.cons_append, List.nil_append]; exact rfl) ?_
              refine zac ?_
              refine zab rfl rfl rfl (zad (.inl rfl) (ev1 rfl)) ?_
              refine zab rfl rfl rfl (op_ixwr (5) rfl av173 (ev1 rfl) (ev1 rfl) (fun _ => rfl) (fun _ => by decide) (Nat.le_of_ble_eq_true rfl)) ?_
              refine zam rfl rfl rfl (zaq 7 rfl zr172 rfl) (by simp only [upd, za, zaa]; exact rfl) ?_
              refine zab rfl rfl rfl (zad (.inr rfl) (ev1 rfl)) ?_
              refine zax rfl rfl (op_stam rfl tb172 (ev1 rfl) (ev1 rfl) rfl rfl rfl rfl) (by simp only [upd, za, zaa]; exact rfl) ?_
              refine zae ?_
              refine zaf ?_
              refine zac ?_
              refine zab rfl rfl rfl (zap rfl fo164_0 (ev1 rfl)) ?_
              refine zab rfl rfl rfl (zav rfl tb3 (ev1 rfl) rfl rfl) ?_
              refine zab rfl rfl rfl (zad (.inl rfl) (ev1 rfl)) ?_
              refine zab rfl rfl rfl ((op_shr (5) rfl (ev1 rfl) (ev1 rfl) (fun _ => ⟨rfl, by decide⟩)).cast (d' := .val (.int .i64 4)) (by kernel_rfl)) ?_
              refine zab rfl rfl rfl ((op_iand rfl (ev1 rfl) (ev1 rfl)).cast (d' := .val (.int .i64 0)) (by kernel_rfl)) ?_
              refine zab rfl rfl rfl ((zb rfl (ev1 rfl) (ev1 rfl)).cast (d' := .val (.bool false)) (by kernel_rfl)) ?_
              refine zab rfl rfl rfl (zad (.inl rfl) (ev1 rfl)) ?_
              refine zag (zar (b := false) rfl rfl rfl) rfl rfl rfl (zal (d := .junk)) ?_
              refine zag (zar (b := false) rfl rfl rfl) rfl rfl rfl (zal (d := .junk)) ?_
              refine zag (zar (b := false) rfl rfl rfl) rfl rfl rfl (zal (d := .junk)) ?_
              refine zag (zar (b := false) rfl rfl rfl) rfl rfl rfl (zal (d := .val (.bool false))) ?_
              refine zag (zar (b := false) rfl rfl rfl) rfl rfl rfl (zal (d := .val (.bool false))) ?_
              refine zab rfl rfl rfl ((zaz rfl (ev1 rfl) (ev3 rfl id)).cast (d' := .val (.bool false)) (by rfl)) ?_
              refine zab rfl rfl rfl (zad (.inl rfl) (ev1 rfl)) ?_
              refine zai (zan (b := false) rfl rfl rfl) rfl rfl rfl (zap rfl fo164_0 (ev1 rfl)) (by simp only [upd, za, zaa]; exact rfl) ?_
              refine zai (zan (b := false) rfl rfl rfl) rfl rfl rfl (zav rfl tb3 (ev2 rfl) rfl rfl) (by simp only [upd, za, zaa]; exact rfl) ?_
              refine zai (zan (b := false) rfl rfl rfl) rfl rfl rfl (zad (.inl rfl) (ev1 rfl)) (by simp only [upd, za, zaa]; exact rfl) ?_
              refine zai (zan (b := false) rfl rfl rfl) rfl rfl rfl ((op_shr (5) rfl (ev2 rfl) (ev2 rfl) (fun _ => ⟨rfl, by decide⟩)).cast (d' := .val (.int .i64 4)) (by kernel_rfl)) (by simp only [upd, za, zaa]; exact rfl) ?_
              refine zai (zan (b := false) rfl rfl rfl) rfl rfl rfl ((op_iand rfl (ev2 rfl) (ev1 rfl)).cast (d' := .val (.int .i64 0)) (by kernel_rfl)) (by simp only [upd, za, zaa]; exact rfl) ?_
              refine zai (zan (b := false) rfl rfl rfl) rfl rfl rfl ((zb rfl (ev2 rfl) (ev1 rfl)).cast (d' := .val (.bool true)) (by kernel_rfl)) (by simp only [upd, za, zaa]; exact rfl) ?_
              refine zai (zan (b := false) rfl rfl rfl) rfl rfl rfl (zad (.inl rfl) (ev2 rfl)) (by simp only [upd, za, zaa]; exact rfl) ?_
              refine zai (zay (g := true) (b := true) rfl rfl rfl) rfl rfl rfl (zap rfl fo172_2 (ev1 rfl)) (by simp only [upd, za, zaa]; exact rfl) ?_
              refine zai (zay (g := true) (b := true) rfl rfl rfl) rfl rfl rfl (zav rfl tb169 (ev2 rfl) rfl rfl) (by simp only [upd, za, zaa]; exact rfl) ?_
              refine zai (zay (g := true) (b := true) rfl rfl rfl) rfl rfl rfl (zah [] [0] [] rfl (ev2 rfl) (ec (ev1 rfl) en) rfl rfl (blk5_d _) rfl rfl rfl rfl rfl rfl) (by simp only [upd, za, zaa]; exact rfl) ?_
              refine zai (zay (g := true) (b := true) rfl rfl rfl) rfl rfl rfl (op_not rfl (ev2 rfl)) (by simp only [upd, za, zaa]; exact rfl) ?_
              refine zai (zan (b := false) rfl rfl rfl) rfl rfl rfl (zaz rfl (ev2 rfl) (ev3 rfl (fun _ => rfl))) (by simp only [upd, za, zaa]; exact rfl) ?_
              refine zab rfl rfl rfl (op_or rfl (ev1 rfl) (ev3 rfl (fun _ => rfl))) ?_
              refine zae ?_
              refine zaw rfl (fun c13 => ?_) (fun c13 => ?_)
              · refine zaf ?_
                refine zac ?_
                refine zab rfl rfl rfl (zad (.inr rfl) (ev1 rfl)) ?_
                refine zae ?_
                refine zau ?_
                refine kend0 (rs1 rfl (rv_t rfl)) rfl ?_
                have hb : opB o = false := by
                  unfold opB
                  simp_all [mostK, errz, eqI_dec, errOr_z]
                  all_goals (first | (intros; omega) | (intros; simp_all; done))
                rw [hb]
                rfl
              · refine zak ?_
                refine zac ?_
                refine zab rfl rfl rfl ((op_add' rfl (ev1 rfl) (ev1 rfl) (fun _ => IntWalk.i64_in _ (by omega))).cast (d' := .val (.int .i64 6)) (by kernel_rfl)) ?_
                refine zab rfl rfl rfl (zad (.inl rfl) (ev1 rfl)) ?_
                refine zae ?_
                refine dloop_step ?_
                refine zaf ?_
                refine zac ?_
                refine zab rfl rfl rfl ((op_lss rfl (ev1 rfl) (ev1 rfl)).cast (d' := .val (.bool true)) (by kernel_rfl)) ?_
                refine zae ?_
                refine zaf ?_
                refine dwp_if_t rfl (rfl) ?_
                refine zak ?_
                refine zaf ?_
                refine zat ?_
                refine zaf ?_
                refine zaj 1 (by simp only [holes, List.cons_append, List.nil_append]; exact rfl) ?_
                refine zac ?_
                refine zab rfl rfl rfl (zad (.inl rfl) (ev1 rfl)) ?_
                refine zab rfl rfl rfl (op_ixwr (6) rfl av173 (ev1 rfl) (ev1 rfl) (fun _ => rfl) (fun _ => by decide) (Nat.le_of_ble_eq_true rfl)) ?_
                refine zam rfl rfl rfl (zaq 8 rfl zr172 rfl) (by simp only [upd, za, zaa]; exact rfl) ?_
                refine zab rfl rfl rfl (zad (.inr rfl) (ev1 rfl)) ?_
                refine zax rfl rfl (op_stam rfl tb172 (ev1 rfl) (ev1 rfl) rfl rfl rfl rfl) (by simp only [upd, za, zaa]; exact rfl) ?_
                refine zae ?_
                refine zaf ?_
                refine zac ?_
                refine zab rfl rfl rfl (zap rfl fo164_0 (ev1 rfl)) ?_
                refine zab rfl rfl rfl (zav rfl tb3 (ev1 rfl) rfl rfl) ?_
                refine zab rfl rfl rfl (zad (.inl rfl) (ev1 rfl)) ?_
                refine zab rfl rfl rfl ((op_shr (6) rfl (ev1 rfl) (ev1 rfl) (fun _ => ⟨rfl, by decide⟩)).cast (d' := .val (.int .i64 2)) (by kernel_rfl)) ?_
                refine zab rfl rfl rfl ((op_iand rfl (ev1 rfl) (ev1 rfl)).cast (d' := .val (.int .i64 0)) (by kernel_rfl)) ?_
                refine zab rfl rfl rfl ((zb rfl (ev1 rfl) (ev1 rfl)).cast (d' := .val (.bool false)) (by kernel_rfl)) ?_
                refine zab rfl rfl rfl (zad (.inl rfl) (ev1 rfl)) ?_
                refine zag (zar (b := false) rfl rfl rfl) rfl rfl rfl (zal (d := .junk)) ?_
                refine zag (zar (b := false) rfl rfl rfl) rfl rfl rfl (zal (d := .junk)) ?_
                refine zag (zar (b := false) rfl rfl rfl) rfl rfl rfl (zal (d := .junk)) ?_
                refine zag (zar (b := false) rfl rfl rfl) rfl rfl rfl (zal (d := .val (.bool false))) ?_
                refine zag (zar (b := false) rfl rfl rfl) rfl rfl rfl (zal (d := .val (.bool false))) ?_
                refine zab rfl rfl rfl ((zaz rfl (ev1 rfl) (ev3 rfl id)).cast (d' := .val (.bool false)) (by rfl)) ?_
                refine zab rfl rfl rfl (zad (.inl rfl) (ev1 rfl)) ?_
                refine zai (zan (b := false) rfl rfl rfl) rfl rfl rfl (zap rfl fo164_0 (ev1 rfl)) (by simp only [upd, za, zaa]; exact rfl) ?_
                refine zai (zan (b := false) rfl rfl rfl) rfl rfl rfl (zav rfl tb3 (ev2 rfl) rfl rfl) (by simp only [upd, za, zaa]; exact rfl) ?_
                refine zai (zan (b := false) rfl rfl rfl) rfl rfl rfl (zad (.inl rfl) (ev1 rfl)) (by simp only [upd, za, zaa]; exact rfl) ?_
                refine zai (zan (b := false) rfl rfl rfl) rfl rfl rfl ((op_shr (6) rfl (ev2 rfl) (ev2 rfl) (fun _ => ⟨rfl, by decide⟩)).cast (d' := .val (.int .i64 2)) (by kernel_rfl)) (by simp only [upd, za, zaa]; exact rfl) ?_
                refine zai (zan (b := false) rfl rfl rfl) rfl rfl rfl ((op_iand rfl (ev2 rfl) (ev1 rfl)).cast (d' := .val (.int .i64 0)) (by kernel_rfl)) (by simp only [upd, za, zaa]; exact rfl) ?_
                refine zai (zan (b := false) rfl rfl rfl) rfl rfl rfl ((zb rfl (ev2 rfl) (ev1 rfl)).cast (d' := .val (.bool true)) (by kernel_rfl)) (by simp only [upd, za, zaa]; exact rfl) ?_
                refine zai (zan (b := false) rfl rfl rfl) rfl rfl rfl (zad (.inl rfl) (ev2 rfl)) (by simp only [upd, za, zaa]; exact rfl) ?_
                refine zai (zay (g := true) (b := true) rfl rfl rfl) rfl rfl rfl (zap rfl fo172_2 (ev1 rfl)) (by simp only [upd, za, zaa]; exact rfl) ?_
                refine zai (zay (g := true) (b := true) rfl rfl rfl) rfl rfl rfl (zav rfl tb169 (ev2 rfl) rfl rfl) (by simp only [upd, za, zaa]; exact rfl) ?_
                refine zai (zay (g := true) (b := true) rfl rfl rfl) rfl rfl rfl (zah [] [0] [] rfl (ev2 rfl) (ec (ev1 rfl) en) rfl rfl (blk6_d _) rfl rfl rfl rfl rfl rfl) (by simp only [upd, za, zaa]; exact rfl) ?_
                refine zai (zay (g := true) (b := true) rfl rfl rfl) rfl rfl rfl (op_not rfl (ev2 rfl)) (by simp only [upd, za, zaa]; exact rfl) ?_
                refine zai (zan (b := false) rfl rfl rfl) rfl rfl rfl (zaz rfl (ev2 rfl) (ev3 rfl (fun _ => rfl))) (by simp only [upd, za, zaa]; exact rfl) ?_
                refine zab rfl rfl rfl (op_or rfl (ev1 rfl) (ev3 rfl (fun _ => rfl))) ?_
                refine zae ?_
                refine zaw rfl (fun c15 => ?_) (fun c15 => ?_)
                · refine zaf ?_
                  refine zac ?_
                  refine zab rfl rfl rfl (zad (.inr rfl) (ev1 rfl)) ?_
                  refine zae ?_
                  refine zau ?_
                  refine kend0 (rs1 rfl (rv_t rfl)) rfl ?_
                  have hb : opB o = false := by
                    unfold opB
                    simp_all [mostK, errz, eqI_dec, errOr_z]
                    all_goals (first | (intros; omega) | (intros; simp_all; done))
                  rw [hb]
                  rfl
                · refine zak ?_
                  refine zac ?_
                  refine zab rfl rfl rfl ((op_add' rfl (ev1 rfl) (ev1 rfl) (fun _ => IntWalk.i64_in _ (by omega))).cast (d' := .val (.int .i64 7)) (by kernel_rfl)) ?_
                  refine zab rfl rfl rfl (zad (.inl rfl) (ev1 rfl)) ?_
                  refine zae ?_
                  refine dloop_step ?_
                  refine zaf ?_
                  refine zac ?_
                  refine zab rfl rfl rfl ((op_lss rfl (ev1 rfl) (ev1 rfl)).cast (d' := .val (.bool true)) (by kernel_rfl)) ?_
                  refine zae ?_
                  refine zaf ?_
                  refine dwp_if_t rfl (rfl) ?_
                  refine zak ?_
                  refine zaf ?_
                  refine zat ?_
                  refine zaf ?_
                  refine zaj 1 (by simp only [holes, List.cons_append, List.nil_append]; exact rfl) ?_
                  refine zac ?_
                  refine zab rfl rfl rfl (zad (.inl rfl) (ev1 rfl)) ?_
                  refine zab rfl rfl rfl (op_ixwr (7) rfl av173 (ev1 rfl) (ev1 rfl) (fun _ => rfl) (fun _ => by decide) (Nat.le_of_ble_eq_true rfl)) ?_
                  refine zam rfl rfl rfl (zaq 9 rfl zr172 rfl) (by simp only [upd, za, zaa]; exact rfl) ?_
                  refine zab rfl rfl rfl (zad (.inr rfl) (ev1 rfl)) ?_
                  refine zax rfl rfl (op_stam rfl tb172 (ev1 rfl) (ev1 rfl) rfl rfl rfl rfl) (by simp only [upd, za, zaa]; exact rfl) ?_
                  refine zae ?_
                  refine zaf ?_
                  refine zac ?_
                  refine zab rfl rfl rfl (zap rfl fo164_0 (ev1 rfl)) ?_
                  refine zab rfl rfl rfl (zav rfl tb3 (ev1 rfl) rfl rfl) ?_
                  refine zab rfl rfl rfl (zad (.inl rfl) (ev1 rfl)) ?_
                  refine zab rfl rfl rfl ((op_shr (7) rfl (ev1 rfl) (ev1 rfl) (fun _ => ⟨rfl, by decide⟩)).cast (d' := .val (.int .i64 1)) (by kernel_rfl)) ?_
                  refine zab rfl rfl rfl ((op_iand rfl (ev1 rfl) (ev1 rfl)).cast (d' := .val (.int .i64 1)) (by kernel_rfl)) ?_
                  refine zab rfl rfl rfl ((zb rfl (ev1 rfl) (ev1 rfl)).cast (d' := .val (.bool true)) (by kernel_rfl)) ?_
                  refine zab rfl rfl rfl (zad (.inl rfl) (ev1 rfl)) ?_
                  refine zai (zar (b := true) rfl rfl rfl) rfl rfl rfl (zap rfl fo172_1 (ev1 rfl)) (by simp only [upd, za, zaa]; exact rfl) ?_
                  refine zai (zar (b := true) rfl rfl rfl) rfl rfl rfl (zav rfl tb168 (ev2 rfl) rfl rfl) (by simp only [upd, za, zaa]; exact rfl) ?_
                  refine zai (zar (b := true) rfl rfl rfl) rfl rfl rfl (op_ldmw rfl tb164 (ev1 rfl) rfl rfl) (by simp only [upd, za, zaa]; exact rfl) ?_
                  refine zai (zar (b := true) rfl rfl rfl) rfl rfl rfl (zah [] [0] [] rfl (ev2 rfl) (ec (ev2 rfl) (ec (ev1 rfl) en)) rfl rfl (fit7_d _ _ _ _ _) rfl rfl rfl rfl rfl rfl) (by simp only [upd, za, zaa]; exact rfl) ?_
                  refine zai (zar (b := true) rfl rfl rfl) rfl rfl rfl (op_not rfl (ev2 rfl)) (by simp only [upd, za, zaa]; exact rfl) ?_
                  refine zab rfl rfl rfl (zaz rfl (ev1 rfl) (ev3 rfl (fun _ => rfl))) ?_
                  refine zab rfl rfl rfl (zad (.inl rfl) (ev1 rfl)) ?_
                  refine zag (zan rfl rfl rfl) rfl rfl rfl (zap rfl fo164_0 (ev1 rfl)) ?_
                  refine zag (zan rfl rfl rfl) rfl rfl rfl (zav rfl tb3 (ev2 rfl) rfl rfl) ?_
                  refine zag (zan rfl rfl rfl) rfl rfl rfl (zad (.inl rfl) (ev1 rfl)) ?_
                  refine zag (zan rfl rfl rfl) rfl rfl rfl ((op_shr (7) rfl (ev2 rfl) (ev2 rfl) (fun _ => ⟨rfl, by decide⟩)).cast (d' := .val (.int .i64 1)) (by kernel_rfl)) ?_
                  refine zag (zan rfl rfl rfl) rfl rfl rfl ((op_iand rfl (ev2 rfl) (ev1 rfl)).cast (d' := .val (.int .i64 1)) (by kernel_rfl)) ?_
                  refine zag (zan rfl rfl rfl) rfl rfl rfl ((zb rfl (ev2 rfl) (ev1 rfl)).cast (d' := .val (.bool false)) (by kernel_rfl)) ?_
                  refine zag (zan rfl rfl rfl) rfl rfl rfl (zad (.inl rfl) (ev2 rfl)) ?_
                  refine zag (zay rfl rfl rfl) rfl rfl rfl (zap rfl fo172_2 (ev1 rfl)) ?_
                  refine zag (zay rfl rfl rfl) rfl rfl rfl (zav rfl tb169 (ev2 rfl) rfl rfl) ?_
                  refine zag (zay rfl rfl rfl) rfl rfl rfl (zah [] [0] [] rfl (ev2 rfl) (ec (ev1 rfl) en) rfl rfl (blk7_d _) rfl rfl rfl rfl rfl rfl) ?_
                  refine zag (zay rfl rfl rfl) rfl rfl rfl (op_not rfl (ev2 rfl)) ?_
                  refine zag (zan rfl rfl rfl) rfl rfl rfl ((zaz rfl (ev2 rfl) (ev2 rfl)).cast (d' := .val (.bool false)) (by rfl)) ?_
                  refine zab rfl rfl rfl (op_or rfl (ev1 rfl) (ev3 rfl id)) ?_
                  refine zae ?_
                  refine zaw rfl (fun c17 => ?_) (fun c17 => ?_)
                  · refine zaf ?_
                    refine zac ?_
                    refine zab rfl rfl rfl (zad (.inr rfl) (ev1 rfl)) ?_
                    refine zae ?_
                    refine zau ?_
                    refine kend0 (rs1 rfl (rv_t rfl)) rfl ?_
                    have hb : opB o = false := by
                      unfold opB
                      simp_all [mostK, errz, eqI_dec, errOr_z]
                      all_goals (first | (intros; omega) | (intros; simp_all; done))
                    rw [hb]
                    rfl
                  · refine zak ?_
                    refine zac ?_
                    refine zab rfl rfl rfl ((op_add' rfl (ev1 rfl) (ev1 rfl) (fun _ => IntWalk.i64_in _ (by omega))).cast (d' := .val (.int .i64 8)) (by kernel_rfl)) ?_
                    refine zab rfl rfl rfl (zad (.inl rfl) (ev1 rfl)) ?_
                    refine zae ?_
                    refine dloop_step ?_
                    refine zaf ?_
                    refine zac ?_
                    refine zab rfl rfl rfl ((op_lss rfl (ev1 rfl) (ev1 rfl)).cast (d' := .val (.bool false)) (by kernel_rfl)) ?_
                    refine zae ?_
                    refine zaf ?_
                    refine dwp_if_f rfl (rfl) ?_
                    refine dwp_exit ?_
                    refine zaf ?_
                    refine zac ?_
                    refine zab rfl rfl rfl (zad (.inr rfl) (ev1 rfl)) ?_
                    refine zae ?_
                    refine zau ?_
                    refine kend0 (rs1 rfl (rv_t rfl)) rfl ?_
                    have hb : opB o = true := by
                      unfold opB
                      simp_all [mostK, errz, eqI_dec, errOr_z]
                      all_goals (first | (intros; omega) | (intros; simp_all; done))
                    rw [hb]
                    rfl
set_option maxRecDepth 4000 in
set_option maxHeartbeats 1000000 in
theorem opc_8 (o : OpM) (hk : o.kd = 8) : DFun Tryz.prog 92 [.agg (opD o)] [] (.val (.int .i64 (errOr (opB o) 220))) [] := by
  refine zba (N := 54) 0 (by kernel_rfl) Tryz.func92 rfl rfl rfl (by simp only [fr0, Nat.zero_add, Nat.reduceAdd]; exact rfl) rfl fun s0 hs0 => ?_
  refine zaf ?_
  refine zaj 1 (by simp only [holes, List.cons_append, List.nil_append]; exact rfl) ?_
  refine zac ?_
  refine zam rfl rfl rfl (op_boxam 0 rfl (ev1 rfl) rfl) (by simp only [upd, za, zaa]; exact rfl) ?_
  refine zab rfl rfl rfl (zad (.inr rfl) (ev1 rfl)) ?_
  refine zae ?_
  refine zaf ?_
  refine zaj 1 (by simp only [holes, List.cons_append, List.nil_append]; exact rfl) ?_
  refine zac ?_
  refine zab rfl rfl rfl (zap rfl fo68_1 (ev1 rfl)) ?_
  refine zab rfl rfl rfl ((zav rfl tb3 (ev1 rfl) rfl rfl : DOp _ _ _ _ _ _ (.val (.int .i64 o.kd)) _).cast (d' := .val (.int .i64 8)) (by rw [hk])) ?_
  refine zab rfl rfl rfl (zah [] [] [] rfl (ev1 rfl) (ec (ev1 rfl) en) rfl rfl (kindOf_8) rfl rfl rfl rfl rfl rfl) ?_
  refine zab rfl rfl rfl (zad (.inl rfl) (ev1 rfl)) ?_
  refine zab rfl rfl rfl (op_ext rfl (ev1 rfl) rfl) ?_
  refine zab rfl rfl rfl (op_ext rfl (ev1 rfl) rfl) ?_
  refine zam rfl rfl rfl (zaq 1 rfl zr164 rfl) (by simp only [upd, za, zaa]; exact rfl) ?_
  refine zax rfl rfl (op_stam rfl tb164 (ev1 rfl) (ev1 rfl) rfl rfl rfl rfl) (by simp only [upd, za, zaa]; exact rfl) ?_
  refine zab rfl rfl rfl (zad (.inr rfl) (ev1 rfl)) ?_
  refine zae ?_
  refine zaf ?_
  refine zaf ?_
  refine zac ?_
  refine zab rfl rfl rfl (zad (.inl rfl) (ev1 rfl)) ?_
  refine zab rfl rfl rfl ((op_not rfl (ev1 rfl)).cast (d' := .val (.bool false)) (by kernel_rfl)) ?_
  refine zab rfl rfl rfl (zad (.inl rfl) (ev1 rfl)) ?_
  refine zai (zan (b := false) rfl rfl rfl) rfl rfl rfl (zap rfl fo68_0 (ev1 rfl)) (by simp only [upd, za, zaa]; exact rfl) ?_
  refine zai (zan (b := false) rfl rfl rfl) rfl rfl rfl (op_ldmv (R := [_, _, _]) rfl tb61 (ev2 rfl) rfl rfl rfl) (by simp only [upd, za, zaa]; exact rfl) ?_
  refine zai (zan (b := false) rfl rfl rfl) rfl rfl rfl (zah [] [] [] rfl (ev1 rfl) (ec (ev2 rfl) en) rfl rfl (idCheck_d _) rfl rfl rfl rfl rfl rfl) (by simp only [upd, za, zaa]; exact rfl) ?_
  refine zai (zan (b := false) rfl rfl rfl) rfl rfl rfl (op_neq rfl (ev2 rfl) (ev1 rfl)) (by simp only [upd, za, zaa]; exact rfl) ?_
  refine zab rfl rfl rfl (op_or rfl (ev1 rfl) (ev3 rfl (fun _ => rfl))) ?_
  refine zae ?_
  refine zaw rfl (fun c1 => ?_) (fun c1 => ?_)
  · refine zaf ?_
    refine zac ?_
    refine zab rfl rfl rfl (zad (.inr rfl) (ev1 rfl)) ?_
    refine zae ?_
    refine zau ?_
    refine kend0 (rs1 rfl (rv_t rfl)) rfl ?_
    have hb : opB o = false := by
      unfold opB
      simp_all [mostK, errz, eqI_dec, errOr_z]
      all_goals (first | (intros; omega) | (intros; simp_all; done))
    rw [hb]
    rfl
  · refine zak ?_
    refine zaf ?_
    refine zaf ?_
    refine zac ?_
    refine zab rfl rfl rfl (zah [] [] [] rfl (ev1 rfl) en rfl rfl (fields_d) rfl rfl rfl rfl rfl rfl) ?_
    refine zab rfl rfl rfl (zad (.inl rfl) (ev1 rfl)) ?_
    refine zae ?_
    refine zat ?_
    refine dwp_dloop (dloop_step ?_)
    refine zaf ?_
    refine zac ?_
    refine zab rfl rfl rfl ((op_lss rfl (ev1 rfl) (ev1 rfl)).cast (d' := .val (.bool true)) (by kernel_rfl)) ?_
    refine zae ?_
    refine zaf ?_
    refine dwp_if_t rfl (rfl) ?_
    refine zak ?_
    refine zaf ?_
    refine zat ?_
    refine zaf ?_
    refine zaj 1 (by simp only [holes, List.cons_append, List.nil_append]; exact rfl) ?_
    refine zac ?_
    refine zab rfl rfl rfl (zad (.inl rfl) (ev1 rfl)) ?_
    refine zab rfl rfl rfl (op_ixwr (0) rfl av173 (ev1 rfl) (ev1 rfl) (fun _ => rfl) (fun _ => by decide) (Nat.le_of_ble_eq_true rfl)) ?_
    refine zam rfl rfl rfl (zaq 2 rfl zr172 rfl) (by simp only [upd, za, zaa]; exact rfl) ?_
    refine zab rfl rfl rfl (zad (.inr rfl) (ev1 rfl)) ?_
    refine zax rfl rfl (op_stam rfl tb172 (ev1 rfl) (ev1 rfl) rfl rfl rfl rfl) (by simp only [upd, za, zaa]; exact rfl) ?_
    refine zae ?_
    refine zaf ?_
    refine zac ?_
    refine zab rfl rfl rfl (zap rfl fo164_0 (ev1 rfl)) ?_
    refine zab rfl rfl rfl (zav rfl tb3 (ev1 rfl) rfl rfl) ?_
    refine zab rfl rfl rfl (zad (.inl rfl) (ev1 rfl)) ?_
    refine zab rfl rfl rfl ((op_shr (0) rfl (ev1 rfl) (ev1 rfl) (fun _ => ⟨rfl, by decide⟩)).cast (d' := .val (.int .i64 128)) (by kernel_rfl)) ?_
    refine zab rfl rfl rfl ((op_iand rfl (ev1 rfl) (ev1 rfl)).cast (d' := .val (.int .i64 0)) (by kernel_rfl)) ?_
    refine zab rfl rfl rfl ((zb rfl (ev1 rfl) (ev1 rfl)).cast (d' := .val (.bool false)) (by kernel_rfl)) ?_
    refine zab rfl rfl rfl (zad (.inl rfl) (ev1 rfl)) ?_
    refine zag (zar (b := false) rfl rfl rfl) rfl rfl rfl (zal (d := .junk)) ?_
    refine zag (zar (b := false) rfl rfl rfl) rfl rfl rfl (zal (d := .junk)) ?_
    refine zag (zar (b := false) rfl rfl rfl) rfl rfl rfl (zal (d := .junk)) ?_
    refine zag (zar (b := false) rfl rfl rfl) rfl rfl rfl (zal (d := .val (.bool false))) ?_
    refine zag (zar (b := false) rfl rfl rfl) rfl rfl rfl (zal (d := .val (.bool false))) ?_
    refine zab rfl rfl rfl ((zaz rfl (ev1 rfl) (ev3 rfl id)).cast (d' := .val (.bool false)) (by rfl)) ?_
    refine zab rfl rfl rfl (zad (.inl rfl) (ev1 rfl)) ?_
    refine zai (zan (b := false) rfl rfl rfl) rfl rfl rfl (zap rfl fo164_0 (ev1 rfl)) (by simp only [upd, za, zaa]; exact rfl) ?_
    refine zai (zan (b := false) rfl rfl rfl) rfl rfl rfl (zav rfl tb3 (ev2 rfl) rfl rfl) (by simp only [upd, za, zaa]; exact rfl) ?_
    refine zai (zan (b := false) rfl rfl rfl) rfl rfl rfl (zad (.inl rfl) (ev1 rfl)) (by simp only [upd, za, zaa]; exact rfl) ?_
    refine zai (zan (b := false) rfl rfl rfl) rfl rfl rfl ((op_shr (0) rfl (ev2 rfl) (ev2 rfl) (fun _ => ⟨rfl, by decide⟩)).cast (d' := .val (.int .i64 128)) (by kernel_rfl)) (by simp only [upd, za, zaa]; exact rfl) ?_
    refine zai (zan (b := false) rfl rfl rfl) rfl rfl rfl ((op_iand rfl (ev2 rfl) (ev1 rfl)).cast (d' := .val (.int .i64 0)) (by kernel_rfl)) (by simp only [upd, za, zaa]; exact rfl) ?_
    refine zai (zan (b := false) rfl rfl rfl) rfl rfl rfl ((zb rfl (ev2 rfl) (ev1 rfl)).cast (d' := .val (.bool true)) (by kernel_rfl)) (by simp only [upd, za, zaa]; exact rfl) ?_
    refine zai (zan (b := false) rfl rfl rfl) rfl rfl rfl (zad (.inl rfl) (ev2 rfl)) (by simp only [upd, za, zaa]; exact rfl) ?_
    refine zai (zay (g := true) (b := true) rfl rfl rfl) rfl rfl rfl (zap rfl fo172_2 (ev1 rfl)) (by simp only [upd, za, zaa]; exact rfl) ?_
    refine zai (zay (g := true) (b := true) rfl rfl rfl) rfl rfl rfl (zav rfl tb169 (ev2 rfl) rfl rfl) (by simp only [upd, za, zaa]; exact rfl) ?_
    refine zai (zay (g := true) (b := true) rfl rfl rfl) rfl rfl rfl (zah [] [0] [] rfl (ev2 rfl) (ec (ev1 rfl) en) rfl rfl (blk0_d _) rfl rfl rfl rfl rfl rfl) (by simp only [upd, za, zaa]; exact rfl) ?_
    refine zai (zay (g := true) (b := true) rfl rfl rfl) rfl rfl rfl (op_not rfl (ev2 rfl)) (by simp only [upd, za, zaa]; exact rfl) ?_
    refine zai (zan (b := false) rfl rfl rfl) rfl rfl rfl (zaz rfl (ev2 rfl) (ev3 rfl (fun _ => rfl))) (by simp only [upd, za, zaa]; exact rfl) ?_
    refine zab rfl rfl rfl (op_or rfl (ev1 rfl) (ev3 rfl (fun _ => rfl))) ?_
    refine zae ?_
    refine zaw rfl (fun c3 => ?_) (fun c3 => ?_)
    · refine zaf ?_
      refine zac ?_
      refine zab rfl rfl rfl (zad (.inr rfl) (ev1 rfl)) ?_
      refine zae ?_
      refine zau ?_
      refine kend0 (rs1 rfl (rv_t rfl)) rfl ?_
      have hb : opB o = false := by
        unfold opB
        simp_all [mostK, errz, eqI_dec, errOr_z]
        all_goals (first | (intros; omega) | (intros; simp_all; done))
      rw [hb]
      rfl
    · refine zak ?_
      refine zac ?_
      refine zab rfl rfl rfl ((op_add' rfl (ev1 rfl) (ev1 rfl) (fun _ => IntWalk.i64_in _ (by omega))).cast (d' := .val (.int .i64 1)) (by kernel_rfl)) ?_
      refine zab rfl rfl rfl (zad (.inl rfl) (ev1 rfl)) ?_
      refine zae ?_
      refine dloop_step ?_
      refine zaf ?_
      refine zac ?_
      refine zab rfl rfl rfl ((op_lss rfl (ev1 rfl) (ev1 rfl)).cast (d' := .val (.bool true)) (by kernel_rfl)) ?_
      refine zae ?_
      refine zaf ?_
      refine dwp_if_t rfl (rfl) ?_
      refine zak ?_
      refine zaf ?_
      refine zat ?_
      refine zaf ?_
      refine zaj 1 (by simp only [holes, List.cons_append, List.nil_append]; exact rfl) ?_
      refine zac ?_
      refine zab rfl rfl rfl (zad (.inl rfl) (ev1 rfl)) ?_
      refine zab rfl rfl rfl (op_ixwr (1) rfl av173 (ev1 rfl) (ev1 rfl) (fun _ => rfl) (fun _ => by decide) (Nat.le_of_ble_eq_true rfl)) ?_
      refine zam rfl rfl rfl (zaq 3 rfl zr172 rfl) (by simp only [upd, za, zaa]; exact rfl) ?_
      refine zab rfl rfl rfl (zad (.inr rfl) (ev1 rfl)) ?_
      refine zax rfl rfl (op_stam rfl tb172 (ev1 rfl) (ev1 rfl) rfl rfl rfl rfl) (by simp only [upd, za, zaa]; exact rfl) ?_
      refine zae ?_
      refine zaf ?_
      refine zac ?_
      refine zab rfl rfl rfl (zap rfl fo164_0 (ev1 rfl)) ?_
      refine zab rfl rfl rfl (zav rfl tb3 (ev1 rfl) rfl rfl) ?_
      refine zab rfl rfl rfl (zad (.inl rfl) (ev1 rfl)) ?_
      refine zab rfl rfl rfl ((op_shr (1) rfl (ev1 rfl) (ev1 rfl) (fun _ => ⟨rfl, by decide⟩)).cast (d' := .val (.int .i64 64)) (by kernel_rfl)) ?_
      refine zab rfl rfl rfl ((op_iand rfl (ev1 rfl) (ev1 rfl)).cast (d' := .val (.int .i64 0)) (by kernel_rfl)) ?_
      refine zab rfl rfl rfl ((zb rfl (ev1 rfl) (ev1 rfl)).cast (d' := .val (.bool false)) (by kernel_rfl)) ?_
      refine zab rfl rfl rfl (zad (.inl rfl) (ev1 rfl)) ?_
      refine zag (zar (b := false) rfl rfl rfl) rfl rfl rfl (zal (d := .junk)) ?_
      refine zag (zar (b := false) rfl rfl rfl) rfl rfl rfl (zal (d := .junk)) ?_
      refine zag (zar (b := false) rfl rfl rfl) rfl rfl rfl (zal (d := .junk)) ?_
      refine zag (zar (b := false) rfl rfl rfl) rfl rfl rfl (zal (d := .val (.bool false))) ?_
      refine zag (zar (b := false) rfl rfl rfl) rfl rfl rfl (zal (d := .val (.bool false))) ?_
      refine zab rfl rfl rfl ((zaz rfl (ev1 rfl) (ev3 rfl id)).cast (d' := .val (.bool false)) (by rfl)) ?_
      refine zab rfl rfl rfl (zad (.inl rfl) (ev1 rfl)) ?_
      refine zai (zan (b := false) rfl rfl rfl) rfl rfl rfl (zap rfl fo164_0 (ev1 rfl)) (by simp only [upd, za, zaa]; exact rfl) ?_
      refine zai (zan (b := false) rfl rfl rfl) rfl rfl rfl (zav rfl tb3 (ev2 rfl) rfl rfl) (by simp only [upd, za, zaa]; exact rfl) ?_
      refine zai (zan (b := false) rfl rfl rfl) rfl rfl rfl (zad (.inl rfl) (ev1 rfl)) (by simp only [upd, za, zaa]; exact rfl) ?_
      refine zai (zan (b := false) rfl rfl rfl) rfl rfl rfl ((op_shr (1) rfl (ev2 rfl) (ev2 rfl) (fun _ => ⟨rfl, by decide⟩)).cast (d' := .val (.int .i64 64)) (by kernel_rfl)) (by simp only [upd, za, zaa]; exact rfl) ?_
      refine zai (zan (b := false) rfl rfl rfl) rfl rfl rfl ((op_iand rfl (ev2 rfl) (ev1 rfl)).cast (d' := .val (.int .i64 0)) (by kernel_rfl)) (by simp only [upd, za, zaa]; exact rfl) ?_
      refine zai (zan (b := false) rfl rfl rfl) rfl rfl rfl ((zb rfl (ev2 rfl) (ev1 rfl)).cast (d' := .val (.bool true)) (by kernel_rfl)) (by simp only [upd, za, zaa]; exact rfl) ?_
      refine zai (zan (b := false) rfl rfl rfl) rfl rfl rfl (zad (.inl rfl) (ev2 rfl)) (by simp only [upd, za, zaa]; exact rfl) ?_
      refine zai (zay (g := true) (b := true) rfl rfl rfl) rfl rfl rfl (zap rfl fo172_2 (ev1 rfl)) (by simp only [upd, za, zaa]; exact rfl) ?_
      refine zai (zay (g := true) (b := true) rfl rfl rfl) rfl rfl rfl (zav rfl tb169 (ev2 rfl) rfl rfl) (by simp only [upd, za, zaa]; exact rfl) ?_
      refine zai (zay (g := true) (b := true) rfl rfl rfl) rfl rfl rfl (zah [] [0] [] rfl (ev2 rfl) (ec (ev1 rfl) en) rfl rfl (blk1_d _) rfl rfl rfl rfl rfl rfl) (by simp only [upd, za, zaa]; exact rfl) ?_
      refine zai (zay (g := true) (b := true) rfl rfl rfl) rfl rfl rfl (op_not rfl (ev2 rfl)) (by simp only [upd, za, zaa]; exact rfl) ?_
      refine zai (zan (b := false) rfl rfl rfl) rfl rfl rfl (zaz rfl (ev2 rfl) (ev3 rfl (fun _ => rfl))) (by simp only [upd, za, zaa]; exact rfl) ?_
      refine zab rfl rfl rfl (op_or rfl (ev1 rfl) (ev3 rfl (fun _ => rfl))) ?_
      refine zae ?_
      refine zaw rfl (fun c5 => ?_) (fun c5 => ?_)
      · refine zaf ?_
        refine zac ?_
        refine zab rfl rfl rfl (zad (.inr rfl) (ev1 rfl)) ?_
        refine zae ?_
        refine zau ?_
        refine kend0 (rs1 rfl (rv_t rfl)) rfl ?_
        have hb : opB o = false := by
          unfold opB
          simp_all [mostK, errz, eqI_dec, errOr_z]
          all_goals (first | (intros; omega) | (intros; simp_all; done))
        rw [hb]
        rfl
      · refine zak ?_
        refine zac ?_
        refine zab rfl rfl rfl ((op_add' rfl (ev1 rfl) (ev1 rfl) (fun _ => IntWalk.i64_in _ (by omega))).cast (d' := .val (.int .i64 2)) (by kernel_rfl)) ?_
        refine zab rfl rfl rfl (zad (.inl rfl) (ev1 rfl)) ?_
        refine zae ?_
        refine dloop_step ?_
        refine zaf ?_
        refine zac ?_
        refine zab rfl rfl rfl ((op_lss rfl (ev1 rfl) (ev1 rfl)).cast (d' := .val (.bool true)) (by kernel_rfl)) ?_
        refine zae ?_
        refine zaf ?_
        refine dwp_if_t rfl (rfl) ?_
        refine zak ?_
        refine zaf ?_
        refine zat ?_
        refine zaf ?_
        refine zaj 1 (by simp only [holes, List.cons_append, List.nil_append]; exact rfl) ?_
        refine zac ?_
        refine zab rfl rfl rfl (zad (.inl rfl) (ev1 rfl)) ?_
        refine zab rfl rfl rfl (op_ixwr (2) rfl av173 (ev1 rfl) (ev1 rfl) (fun _ => rfl) (fun _ => by decide) (Nat.le_of_ble_eq_true rfl)) ?_
        refine zam rfl rfl rfl (zaq 4 rfl zr172 rfl) (by simp only [upd, za, zaa]; exact rfl) ?_
        refine zab rfl rfl rfl (zad (.inr rfl) (ev1 rfl)) ?_
        refine zax rfl rfl (op_stam rfl tb172 (ev1 rfl) (ev1 rfl) rfl rfl rfl rfl) (by simp only [upd, za, zaa]; exact rfl) ?_
        refine zae ?_
        refine zaf ?_
        refine zac ?_
        refine zab rfl rfl rfl (zap rfl fo164_0 (ev1 rfl)) ?_
        refine zab rfl rfl rfl (zav rfl tb3 (ev1 rfl) rfl rfl) ?_
        refine zab rfl rfl rfl (zad (.inl rfl) (ev1 rfl)) ?_
        refine zab rfl rfl rfl ((op_shr (2) rfl (ev1 rfl) (ev1 rfl) (fun _ => ⟨rfl, by decide⟩)).cast (d' := .val (.int .i64 32)) (by kernel_rfl)) ?_
        refine zab rfl rfl rfl ((op_iand rfl (ev1 rfl) (ev1 rfl)).cast (d' := .val (.int .i64 0)) (by kernel_rfl)) ?_
        refine zab rfl rfl rfl ((zb rfl (ev1 rfl) (ev1 rfl)).cast (d' := .val (.bool false)) (by kernel_rfl)) ?_
        refine zab rfl rfl rfl (zad (.inl rfl) (ev1 rfl)) ?_
        refine zag (zar (b := false) rfl rfl rfl) rfl rfl rfl (zal (d := .junk)) ?_
        refine zag (zar (b := false) rfl rfl rfl) rfl rfl rfl (zal (d := .junk)) ?_
        refine zag (zar (b := false) rfl rfl rfl) rfl rfl rfl (zal (d := .junk)) ?_
        refine zag (zar (b := false) rfl rfl rfl) rfl rfl rfl (zal (d := .val (.bool false))) ?_
        refine zag (zar (b := false) rfl rfl rfl) rfl rfl rfl (zal (d := .val (.bool false))) ?_
        refine zab rfl rfl rfl ((zaz rfl (ev1 rfl) (ev3 rfl id)).cast (d' := .val (.bool false)) (by rfl)) ?_
        refine zab rfl rfl rfl (zad (.inl rfl) (ev1 rfl)) ?_
        refine zai (zan (b := false) rfl rfl rfl) rfl rfl rfl (zap rfl fo164_0 (ev1 rfl)) (by simp only [upd, za, zaa]; exact rfl) ?_
        refine zai (zan (b := false) rfl rfl rfl) rfl rfl rfl (zav rfl tb3 (ev2 rfl) rfl rfl) (by simp only [upd, za, zaa]; exact rfl) ?_
        refine zai (zan (b := false) rfl rfl rfl) rfl rfl rfl (zad (.inl rfl) (ev1 rfl)) (by simp only [upd, za, zaa]; exact rfl) ?_
        refine zai (zan (b := false) rfl rfl rfl) rfl rfl rfl ((op_shr (2) rfl (ev2 rfl) (ev2 rfl) (fun _ => ⟨rfl, by decide⟩)).cast (d' := .val (.int .i64 32)) (by kernel_rfl)) (by simp only [upd, za, zaa]; exact rfl) ?_
        refine zai (zan (b := false) rfl rfl rfl) rfl rfl rfl ((op_iand rfl (ev2 rfl) (ev1 rfl)).cast (d' := .val (.int .i64 0)) (by kernel_rfl)) (by simp only [upd, za, zaa]; exact rfl) ?_
        refine zai (zan (b := false) rfl rfl rfl) rfl rfl rfl ((zb rfl (ev2 rfl) (ev1 rfl)).cast (d' := .val (.bool true)) (by kernel_rfl)) (by simp only [upd, za, zaa]; exact rfl) ?_
        refine zai (zan (b := false) rfl rfl rfl) rfl rfl rfl (zad (.inl rfl) (ev2 rfl)) (by simp only [upd, za, zaa]; exact rfl) ?_
        refine zai (zay (g := true) (b := true) rfl rfl rfl) rfl rfl rfl (zap rfl fo172_2 (ev1 rfl)) (by simp only [upd, za, zaa]; exact rfl) ?_
        refine zai (zay (g := true) (b := true) rfl rfl rfl) rfl rfl rfl (zav rfl tb169 (ev2 rfl) rfl rfl) (by simp only [upd, za, zaa]; exact rfl) ?_
        refine zai (zay (g := true) (b := true) rfl rfl rfl) rfl rfl rfl (zah [] [0] [] rfl (ev2 rfl) (ec (ev1 rfl) en) rfl rfl (blk2_d _) rfl rfl rfl rfl rfl rfl) (by simp only [upd, za, zaa]; exact rfl) ?_
        refine zai (zay (g := true) (b := true) rfl rfl rfl) rfl rfl rfl (op_not rfl (ev2 rfl)) (by simp only [upd, za, zaa]; exact rfl) ?_
        refine zai (zan (b := false) rfl rfl rfl) rfl rfl rfl (zaz rfl (ev2 rfl) (ev3 rfl (fun _ => rfl))) (by simp only [upd, za, zaa]; exact rfl) ?_
        refine zab rfl rfl rfl (op_or rfl (ev1 rfl) (ev3 rfl (fun _ => rfl))) ?_
        refine zae ?_
        refine zaw rfl (fun c7 => ?_) (fun c7 => ?_)
        · refine zaf ?_
          refine zac ?_
          refine zab rfl rfl rfl (zad (.inr rfl) (ev1 rfl)) ?_
          refine zae ?_
          refine zau ?_
          refine kend0 (rs1 rfl (rv_t rfl)) rfl ?_
          have hb : opB o = false := by
            unfold opB
            simp_all [mostK, errz, eqI_dec, errOr_z]
            all_goals (first | (intros; omega) | (intros; simp_all; done))
          rw [hb]
          rfl
        · refine zak ?_
          refine zac ?_
          refine zab rfl rfl rfl ((op_add' rfl (ev1 rfl) (ev1 rfl) (fun _ => IntWalk.i64_in _ (by omega))).cast (d' := .val (.int .i64 3)) (by kernel_rfl)) ?_
          refine zab rfl rfl rfl (zad (.inl rfl) (ev1 rfl)) ?_
          refine zae ?_
          refine dloop_step ?_
          refine zaf ?_
          refine zac ?_
          refine zab rfl rfl rfl ((op_lss rfl (ev1 rfl) (ev1 rfl)).cast (d' := .val (.bool true)) (by kernel_rfl)) ?_
          refine zae ?_
          refine zaf ?_
          refine dwp_if_t rfl (rfl) ?_
          refine zak ?_
          refine zaf ?_
          refine zat ?_
          refine zaf ?_
          refine zaj 1 (by simp only [holes, List.cons_append, List.nil_append]; exact rfl) ?_
          refine zac ?_
          refine zab rfl rfl rfl (zad (.inl rfl) (ev1 rfl)) ?_
          refine zab rfl rfl rfl (op_ixwr (3) rfl av173 (ev1 rfl) (ev1 rfl) (fun _ => rfl) (fun _ => by decide) (Nat.le_of_ble_eq_true rfl)) ?_
          refine zam rfl rfl rfl (zaq 5 rfl zr172 rfl) (by simp only [upd, za, zaa]; exact rfl) ?_
          refine zab rfl rfl rfl (zad (.inr rfl) (ev1 rfl)) ?_
          refine zax rfl rfl (op_stam rfl tb172 (ev1 rfl) (ev1 rfl) rfl rfl rfl rfl) (by simp only [upd, za, zaa]; exact rfl) ?_
          refine zae ?_
          refine zaf ?_
          refine zac ?_
          refine zab rfl rfl rfl (zap rfl fo164_0 (ev1 rfl)) ?_
          refine zab rfl rfl rfl (zav rfl tb3 (ev1 rfl) rfl rfl) ?_
          refine zab rfl rfl rfl (zad (.inl rfl) (ev1 rfl)) ?_
          refine zab rfl rfl rfl ((op_shr (3) rfl (ev1 rfl) (ev1 rfl) (fun _ => ⟨rfl, by decide⟩)).cast (d' := .val (.int .i64 16)) (by kernel_rfl)) ?_
          refine zab rfl rfl rfl ((op_iand rfl (ev1 rfl) (ev1 rfl)).cast (d' := .val (.int .i64 0)) (by kernel_rfl)) ?_
          refine zab rfl rfl rfl ((zb rfl (ev1 rfl) (ev1 rfl)).cast (d' := .val (.bool false)) (by kernel_rfl)) ?_
          refine zab rfl rfl rfl (zad (.inl rfl) (ev1 rfl)) ?_
          refine zag (zar (b := false) rfl rfl rfl) rfl rfl rfl (zal (d := .junk)) ?_
          refine zag (zar (b := false) rfl rfl rfl) rfl rfl rfl (zal (d := .junk)) ?_
          refine zag (zar (b := false) rfl rfl rfl) rfl rfl rfl (zal (d := .junk)) ?_
          refine zag (zar (b := false) rfl rfl rfl) rfl rfl rfl (zal (d := .val (.bool false))) ?_
          refine zag (zar (b := false) rfl rfl rfl) rfl rfl rfl (zal (d := .val (.bool false))) ?_
          refine zab rfl rfl rfl ((zaz rfl (ev1 rfl) (ev3 rfl id)).cast (d' := .val (.bool false)) (by rfl)) ?_
          refine zab rfl rfl rfl (zad (.inl rfl) (ev1 rfl)) ?_
          refine zai (zan (b := false) rfl rfl rfl) rfl rfl rfl (zap rfl fo164_0 (ev1 rfl)) (by simp only [upd, za, zaa]; exact rfl) ?_
          refine zai (zan (b := false) rfl rfl rfl) rfl rfl rfl (zav rfl tb3 (ev2 rfl) rfl rfl) (by simp only [upd, za, zaa]; exact rfl) ?_
          refine zai (zan (b := false) rfl rfl rfl) rfl rfl rfl (zad (.inl rfl) (ev1 rfl)) (by simp only [upd, za, zaa]; exact rfl) ?_
          refine zai (zan (b := false) rfl rfl rfl) rfl rfl rfl ((op_shr (3) rfl (ev2 rfl) (ev2 rfl) (fun _ => ⟨rfl, by decide⟩)).cast (d' := .val (.int .i64 16)) (by kernel_rfl)) (by simp only [upd, za, zaa]; exact rfl) ?_
          refine zai (zan (b := false) rfl rfl rfl) rfl rfl rfl ((op_iand rfl (ev2 rfl) (ev1 rfl)).cast (d' := .val (.int .i64 0)) (by kernel_rfl)) (by simp only [upd, za, zaa]; exact rfl) ?_
          refine zai (zan (b := false) rfl rfl rfl) rfl rfl rfl ((zb rfl (ev2 rfl) (ev1 rfl)).cast (d' := .val (.bool true)) (by kernel_rfl)) (by simp only [upd, za, zaa]; exact rfl) ?_
          refine zai (zan (b := false) rfl rfl rfl) rfl rfl rfl (zad (.inl rfl) (ev2 rfl)) (by simp only [upd, za, zaa]; exact rfl) ?_
          refine zai (zay (g := true) (b := true) rfl rfl rfl) rfl rfl rfl (zap rfl fo172_2 (ev1 rfl)) (by simp only [upd, za, zaa]; exact rfl) ?_
          refine zai (zay (g := true) (b := true) rfl rfl rfl) rfl rfl rfl (zav rfl tb169 (ev2 rfl) rfl rfl) (by simp only [upd, za, zaa]; exact rfl) ?_
          refine zai (zay (g := true) (b := true) rfl rfl rfl) rfl rfl rfl (zah [] [0] [] rfl (ev2 rfl) (ec (ev1 rfl) en) rfl rfl (blk3_d _) rfl rfl rfl rfl rfl rfl) (by simp only [upd, za, zaa]; exact rfl) ?_
          refine zai (zay (g := true) (b := true) rfl rfl rfl) rfl rfl rfl (op_not rfl (ev2 rfl)) (by simp only [upd, za, zaa]; exact rfl) ?_
          refine zai (zan (b := false) rfl rfl rfl) rfl rfl rfl (zaz rfl (ev2 rfl) (ev3 rfl (fun _ => rfl))) (by simp only [upd, za, zaa]; exact rfl) ?_
          refine zab rfl rfl rfl (op_or rfl (ev1 rfl) (ev3 rfl (fun _ => rfl))) ?_
          refine zae ?_
          refine zaw rfl (fun c9 => ?_) (fun c9 => ?_)
          · refine zaf ?_
            refine zac ?_
            refine zab rfl rfl rfl (zad (.inr rfl) (ev1 rfl)) ?_
            refine zae ?_
            refine zau ?_
            refine kend0 (rs1 rfl (rv_t rfl)) rfl ?_
            have hb : opB o = false := by
              unfold opB
              simp_all [mostK, errz, eqI_dec, errOr_z]
              all_goals (first | (intros; omega) | (intros; simp_all; done))
            rw [hb]
            rfl
          · refine zak ?_
            refine zac ?_
            refine zab rfl rfl rfl ((op_add' rfl (ev1 rfl) (ev1 rfl) (fun _ => IntWalk.i64_in _ (by omega))).cast (d' := .val (.int .i64 4)) (by kernel_rfl)) ?_
            refine zab rfl rfl rfl (zad (.inl rfl) (ev1 rfl)) ?_
            refine zae ?_
            refine dloop_step ?_
            refine zaf ?_
            refine zac ?_
            refine zab rfl rfl rfl ((op_lss rfl (ev1 rfl) (ev1 rfl)).cast (d' := .val (.bool true)) (by kernel_rfl)) ?_
            refine zae ?_
            refine zaf ?_
            refine dwp_if_t rfl (rfl) ?_
            refine zak ?_
            refine zaf ?_
            refine zat ?_
            refine zaf ?_
            refine zaj 1 (by simp only [holes, List.cons_append, List.nil_append]; exact rfl) ?_
            refine zac ?_
            refine zab rfl rfl rfl (zad (.inl rfl) (ev1 rfl)) ?_
            refine zab rfl rfl rfl (op_ixwr (4) rfl av173 (ev1 rfl) (ev1 rfl) (fun _ => rfl) (fun _ => by decide) (Nat.le_of_ble_eq_true rfl)) ?_
            refine zam rfl rfl rfl (zaq 6 rfl zr172 rfl) (by simp only [upd, za, zaa]; exact rfl) ?_
            refine zab rfl rfl rfl (zad (.inr rfl) (ev1 rfl)) ?_
            refine zax rfl rfl (op_stam rfl tb172 (ev1 rfl) (ev1 rfl) rfl rfl rfl rfl) (by simp only [upd, za, zaa]; exact rfl) ?_
            refine zae ?_
            refine zaf ?_
            refine zac ?_
            refine zab rfl rfl rfl (zap rfl fo164_0 (ev1 rfl)) ?_
            refine zab rfl rfl rfl (zav rfl tb3 (ev1 rfl) rfl rfl) ?_
            refine zab rfl rfl rfl (zad (.inl rfl) (ev1 rfl)) ?_
            refine zab rfl rfl rfl ((op_shr (4) rfl (ev1 rfl) (ev1 rfl) (fun _ => ⟨rfl, by decide⟩)).cast (d' := .val (.int .i64 8)) (by kernel_rfl)) ?_
            refine zab rfl rfl rfl ((op_iand rfl (ev1 rfl) (ev1 rfl)).cast (d' := .val (.int .i64 0)) (by kernel_rfl)) ?_
            refine zab rfl rfl rfl ((zb rfl (ev1 rfl) (ev1 rfl)).cast (d' := .val (.bool false)) (by kernel_rfl)) ?_
            refine zab rfl rfl rfl (zad (.inl rfl) (ev1 rfl)) ?_
            refine zag (zar (b := false) rfl rfl rfl) rfl rfl rfl (zal (d := .junk)) ?_
            refine zag (zar (b := false) rfl rfl rfl) rfl rfl rfl (zal (d := .junk)) ?_
            refine zag (zar (b := false) rfl rfl rfl) rfl rfl rfl (zal (d := .junk)) ?_
            refine zag (zar (b := false) rfl rfl rfl) rfl rfl rfl (zal (d := .val (.bool false))) ?_
            refine zag (zar (b := false) rfl rfl rfl) rfl rfl rfl (zal (d := .val (.bool false))) ?_
            refine zab rfl rfl rfl ((zaz rfl (ev1 rfl) (ev3 rfl id)).cast (d' := .val (.bool false)) (by rfl)) ?_
            refine zab rfl rfl rfl (zad (.inl rfl) (ev1 rfl)) ?_
            refine zai (zan (b := false) rfl rfl rfl) rfl rfl rfl (zap rfl fo164_0 (ev1 rfl)) (by simp only [upd, za, zaa]; exact rfl) ?_
            refine zai (zan (b := false) rfl rfl rfl) rfl rfl rfl (zav rfl tb3 (ev2 rfl) rfl rfl) (by simp only [upd, za, zaa]; exact rfl) ?_
            refine zai (zan (b := false) rfl rfl rfl) rfl rfl rfl (zad (.inl rfl) (ev1 rfl)) (by simp only [upd, za, zaa]; exact rfl) ?_
            refine zai (zan (b := false) rfl rfl rfl) rfl rfl rfl ((op_shr (4) rfl (ev2 rfl) (ev2 rfl) (fun _ => ⟨rfl, by decide⟩)).cast (d' := .val (.int .i64 8)) (by kernel_rfl)) (by simp only [upd, za, zaa]; exact rfl) ?_
            refine zai (zan (b := false) rfl rfl rfl) rfl rfl rfl ((op_iand rfl (ev2 rfl) (ev1 rfl)).cast (d' := .val (.int .i64 0)) (by kernel_rfl)) (by simp only [upd, za, zaa]; exact rfl) ?_
            refine zai (zan (b := false) rfl rfl rfl) rfl rfl rfl ((zb rfl (ev2 rfl) (ev1 rfl)).cast (d' := .val (.bool true)) (by kernel_rfl)) (by simp only [upd, za, zaa]; exact rfl) ?_
            refine zai (zan (b := false) rfl rfl rfl) rfl rfl rfl (zad (.inl rfl) (ev2 rfl)) (by simp only [upd, za, zaa]; exact rfl) ?_
            refine zai (zay (g := true) (b := true) rfl rfl rfl) rfl rfl rfl (zap rfl fo172_2 (ev1 rfl)) (by simp only [upd, za, zaa]; exact rfl) ?_
            refine zai (zay (g := true) (b := true) rfl rfl rfl) rfl rfl rfl (zav rfl tb169 (ev2 rfl) rfl rfl) (by simp only [upd, za, zaa]; exact rfl) ?_
            refine zai (zay (g := true) (b := true) rfl rfl rfl) rfl rfl rfl (zah [] [0] [] rfl (ev2 rfl) (ec (ev1 rfl) en) rfl rfl (blk4_d _) rfl rfl rfl rfl rfl rfl) (by simp only [upd, za, zaa]; exact rfl) ?_
            refine zai (zay (g := true) (b := true) rfl rfl rfl) rfl rfl rfl (op_not rfl (ev2 rfl)) (by simp only [upd, za, zaa]; exact rfl) ?_
            refine zai (zan (b := false) rfl rfl rfl) rfl rfl rfl (zaz rfl (ev2 rfl) (ev3 rfl (fun _ => rfl))) (by simp only [upd, za, zaa]; exact rfl) ?_
            refine zab rfl rfl rfl (op_or rfl (ev1 rfl) (ev3 rfl (fun _ => rfl))) ?_
            refine zae ?_
            refine zaw rfl (fun c11 => ?_) (fun c11 => ?_)
            · refine zaf ?_
              refine zac ?_
              refine zab rfl rfl rfl (zad (.inr rfl) (ev1 rfl)) ?_
              refine zae ?_
              refine zau ?_
              refine kend0 (rs1 rfl (rv_t rfl)) rfl ?_
              have hb : opB o = false := by
                unfold opB
                simp_all [mostK, errz, eqI_dec, errOr_z]
                all_goals (first | (intros; omega) | (intros; simp_all; done))
              rw [hb]
              rfl
            · refine zak ?_
              refine zac ?_
              refine zab rfl rfl rfl ((op_add' rfl (ev1 rfl) (ev1 rfl) (fun _ => IntWalk.i64_in _ (by omega))).cast (d' := .val (.int .i64 5)) (by kernel_rfl)) ?_
              refine zab rfl rfl rfl (zad (.inl rfl) (ev1 rfl)) ?_
              refine zae ?_
              refine dloop_step ?_
              refine zaf ?_
              refine zac ?_
              refine zab rfl rfl rfl ((op_lss rfl (ev1 rfl) (ev1 rfl)).cast (d' := .val (.bool true)) (by kernel_rfl)) ?_
              refine zae ?_
              refine zaf ?_
              refine dwp_if_t rfl (rfl) ?_
              refine zak ?_
              refine zaf ?_
              refine zat ?_
              refine zaf ?_
              refine zaj 1 (by simp only [holes, List.cons_append, List.nil_append]; exact rfl) ?_
              refine zac ?_
              refine zab rfl rfl rfl (zad (.inl rfl) (ev1 rfl)) ?_
              refine zab rfl rfl rfl (op_ixwr (5) rfl av173 (ev1 rfl) (ev1 rfl) (fun _ => rfl) (fun _ => by decide) (Nat.le_of_ble_eq_true rfl)) ?_
              refine zam rfl rfl rfl (zaq 7 rfl zr172 rfl) (by simp only [upd, za, zaa]; exact rfl) ?_
              refine zab rfl rfl rfl (zad (.inr rfl) (ev1 rfl)) ?_
              refine zax rfl rfl (op_stam rfl tb172 (ev1 rfl) (ev1 rfl) rfl rfl rfl rfl) (by simp only [upd, za, zaa]; exact rfl) ?_
              refine zae ?_
              refine zaf ?_
              refine zac ?_
              refine zab rfl rfl rfl (zap rfl fo164_0 (ev1 rfl)) ?_
              refine zab rfl rfl rfl (zav rfl tb3 (ev1 rfl) rfl rfl) ?_
              refine zab rfl rfl rfl (zad (.inl rfl) (ev1 rfl)) ?_
              refine zab rfl rfl rfl ((op_shr (5) rfl (ev1 rfl) (ev1 rfl) (fun _ => ⟨rfl, by decide⟩)).cast (d' := .val (.int .i64 4)) (by kernel_rfl)) ?_
              refine zab rfl rfl rfl ((op_iand rfl (ev1 rfl) (ev1 rfl)).cast (d' := .val (.int .i64 0)) (by kernel_rfl)) ?_
              refine zab rfl rfl rfl ((zb rfl (ev1 rfl) (ev1 rfl)).cast (d' := .val (.bool false)) (by kernel_rfl)) ?_
              refine zab rfl rfl rfl (zad (.inl rfl) (ev1 rfl)) ?_
              refine zag (zar (b := false) rfl rfl rfl) rfl rfl rfl (zal (d := .junk)) ?_
              refine zag (zar (b := false) rfl rfl rfl) rfl rfl rfl (zal (d := .junk)) ?_
              refine zag (zar (b := false) rfl rfl rfl) rfl rfl rfl (zal (d := .junk)) ?_
              refine zag (zar (b := false) rfl rfl rfl) rfl rfl rfl (zal (d := .val (.bool false))) ?_
              refine zag (zar (b := false) rfl rfl rfl) rfl rfl rfl (zal (d := .val (.bool false))) ?_
              refine zab rfl rfl rfl ((zaz rfl (ev1 rfl) (ev3 rfl id)).cast (d' := .val (.bool false)) (by rfl)) ?_
              refine zab rfl rfl rfl (zad (.inl rfl) (ev1 rfl)) ?_
              refine zai (zan (b := false) rfl rfl rfl) rfl rfl rfl (zap rfl fo164_0 (ev1 rfl)) (by simp only [upd, za, zaa]; exact rfl) ?_
              refine zai (zan (b := false) rfl rfl rfl) rfl rfl rfl (zav rfl tb3 (ev2 rfl) rfl rfl) (by simp only [upd, za, zaa]; exact rfl) ?_
              refine zai (zan (b := false) rfl rfl rfl) rfl rfl rfl (zad (.inl rfl) (ev1 rfl)) (by simp only [upd, za, zaa]; exact rfl) ?_
              refine zai (zan (b := false) rfl rfl rfl) rfl rfl rfl ((op_shr (5) rfl (ev2 rfl) (ev2 rfl) (fun _ => ⟨rfl, by decide⟩)).cast (d' := .val (.int .i64 4)) (by kernel_rfl)) (by simp only [upd, za, zaa]; exact rfl) ?_
              refine zai (zan (b := false) rfl rfl rfl) rfl rfl rfl ((op_iand rfl (ev2 rfl) (ev1 rfl)).cast (d' := .val (.int .i64 0)) (by kernel_rfl)) (by simp only [upd, za, zaa]; exact rfl) ?_
              refine zai (zan (b := false) rfl rfl rfl) rfl rfl rfl ((zb rfl (ev2 rfl) (ev1 rfl)).cast (d' := .val (.bool true)) (by kernel_rfl)) (by simp only [upd, za, zaa]; exact rfl) ?_
              refine zai (zan (b := false) rfl rfl rfl) rfl rfl rfl (zad (.inl rfl) (ev2 rfl)) (by simp only [upd, za, zaa]; exact rfl) ?_
              refine zai (zay (g := true) (b := true) rfl rfl rfl) rfl rfl rfl (zap rfl fo172_2 (ev1 rfl)) (by simp only [upd, za, zaa]; exact rfl) ?_
              refine zai (zay (g := true) (b := true) rfl rfl rfl) rfl rfl rfl (zav rfl tb169 (ev2 rfl) rfl rfl) (by simp only [upd, za, zaa]; exact rfl) ?_
              refine zai (zay (g := true) (b := true) rfl rfl rfl) rfl rfl rfl (zah [] [0] [] rfl (ev2 rfl) (ec (ev1 rfl) en) rfl rfl (blk5_d _) rfl rfl rfl rfl rfl rfl) (by simp only [upd, za, zaa]; exact rfl) ?_
              refine zai (zay (g := true) (b := true) rfl rfl rfl) rfl rfl rfl (op_not rfl (ev2 rfl)) (by simp only [upd, za, zaa]; exact rfl) ?_
              refine zai (zan (b := false) rfl rfl rfl) rfl rfl rfl (zaz rfl (ev2 rfl) (ev3 rfl (fun _ => rfl))) (by simp only [upd, za, zaa]; exact rfl) ?_
              refine zab rfl rfl rfl (op_or rfl (ev1 rfl) (ev3 rfl (fun _ => rfl))) ?_
              refine zae ?_
              refine zaw rfl (fun c13 => ?_) (fun c13 => ?_)
              · refine zaf ?_
                refine zac ?_
                refine zab rfl rfl rfl (zad (.inr rfl) (ev1 rfl)) ?_
                refine zae ?_
                refine zau ?_
                refine kend0 (rs1 rfl (rv_t rfl)) rfl ?_
                have hb : opB o = false := by
                  unfold opB
                  simp_all [mostK, errz, eqI_dec, errOr_z]
                  all_goals (first | (intros; omega) | (intros; simp_all; done))
                rw [hb]
                rfl
              · refine zak ?_
                refine zac ?_
                refine zab rfl rfl rfl ((op_add' rfl (ev1 rfl) (ev1 rfl) (fun _ => IntWalk.i64_in _ (by omega))).cast (d' := .val (.int .i64 6)) (by kernel_rfl)) ?_
                refine zab rfl rfl rfl (zad (.inl rfl) (ev1 rfl)) ?_
                refine zae ?_
                refine dloop_step ?_
                refine zaf ?_
                refine zac ?_
                refine zab rfl rfl rfl ((op_lss rfl (ev1 rfl) (ev1 rfl)).cast (d' := .val (.bool true)) (by kernel_rfl)) ?_
                refine zae ?_
                refine zaf ?_
                refine dwp_if_t rfl (rfl) ?_
                refine zak ?_
                refine zaf ?_
                refine zat ?_
                refine zaf ?_
                refine zaj 1 (by simp only [holes, List.cons_append, List.nil_append]; exact rfl) ?_
                refine zac ?_
                refine zab rfl rfl rfl (zad (.inl rfl) (ev1 rfl)) ?_
                refine zab rfl rfl rfl (op_ixwr (6) rfl av173 (ev1 rfl) (ev1 rfl) (fun _ => rfl) (fun _ => by decide) (Nat.le_of_ble_eq_true rfl)) ?_
                refine zam rfl rfl rfl (zaq 8 rfl zr172 rfl) (by simp only [upd, za, zaa]; exact rfl) ?_
                refine zab rfl rfl rfl (zad (.inr rfl) (ev1 rfl)) ?_
                refine zax rfl rfl (op_stam rfl tb172 (ev1 rfl) (ev1 rfl) rfl rfl rfl rfl) (by simp only [upd, za, zaa]; exact rfl) ?_
                refine zae ?_
                refine zaf ?_
                refine zac ?_
                refine zab rfl rfl rfl (zap rfl fo164_0 (ev1 rfl)) ?_
                refine zab rfl rfl rfl (zav rfl tb3 (ev1 rfl) rfl rfl) ?_
                refine zab rfl rfl rfl (zad (.inl rfl) (ev1 rfl)) ?_
                refine zab rfl rfl rfl ((op_shr (6) rfl (ev1 rfl) (ev1 rfl) (fun _ => ⟨rfl, by decide⟩)).cast (d' := .val (.int .i64 2)) (by kernel_rfl)) ?_
                refine zab rfl rfl rfl ((op_iand rfl (ev1 rfl) (ev1 rfl)).cast (d' := .val (.int .i64 0)) (by kernel_rfl)) ?_
                refine zab rfl rfl rfl ((zb rfl (ev1 rfl) (ev1 rfl)).cast (d' := .val (.bool false)) (by kernel_rfl)) ?_
                refine zab rfl rfl rfl (zad (.inl rfl) (ev1 rfl)) ?_
                refine zag (zar (b := false) rfl rfl rfl) rfl rfl rfl (zal (d := .junk)) ?_
                refine zag (zar (b := false) rfl rfl rfl) rfl rfl rfl (zal (d := .junk)) ?_
                refine zag (zar (b := false) rfl rfl rfl) rfl rfl rfl (zal (d := .junk)) ?_
                refine zag (zar (b := false) rfl rfl rfl) rfl rfl rfl (zal (d := .val (.bool false))) ?_
                refine zag (zar (b := false) rfl rfl rfl) rfl rfl rfl (zal (d := .val (.bool false))) ?_
                refine zab rfl rfl rfl ((zaz rfl (ev1 rfl) (ev3 rfl id)).cast (d' := .val (.bool false)) (by rfl)) ?_
                refine zab rfl rfl rfl (zad (.inl rfl) (ev1 rfl)) ?_
                refine zai (zan (b := false) rfl rfl rfl) rfl rfl rfl (zap rfl fo164_0 (ev1 rfl)) (by simp only [upd, za, zaa]; exact rfl) ?_
                refine zai (zan (b := false) rfl rfl rfl) rfl rfl rfl (zav rfl tb3 (ev2 rfl) rfl rfl) (by simp only [upd, za, zaa]; exact rfl) ?_
                refine zai (zan (b := false) rfl rfl rfl) rfl rfl rfl (zad (.inl rfl) (ev1 rfl)) (by simp only [upd, za, zaa]; exact rfl) ?_
                refine zai (zan (b := false) rfl rfl rfl) rfl rfl rfl ((op_shr (6) rfl (ev2 rfl) (ev2 rfl) (fun _ => ⟨rfl, by decide⟩)).cast (d' := .val (.int .i64 2)) (by kernel_rfl)) (by simp only [upd, za, zaa]; exact rfl) ?_
                refine zai (zan (b := false) rfl rfl rfl) rfl rfl rfl ((op_iand rfl (ev2 rfl) (ev1 rfl)).cast (d' := .val (.int .i64 0)) (by kernel_rfl)) (by simp only [upd, za, zaa]; exact rfl) ?_
                refine zai (zan (b := false) rfl rfl rfl) rfl rfl rfl ((zb rfl (ev2 rfl) (ev1 rfl)).cast (d' := .val (.bool true)) (by kernel_rfl)) (by simp only [upd, za, zaa]; exact rfl) ?_
                refine zai (zan (b := false) rfl rfl rfl) rfl rfl rfl (zad (.inl rfl) (ev2 rfl)) (by simp only [upd, za, zaa]; exact rfl) ?_
                refine zai (zay (g := true) (b := true) rfl rfl rfl) rfl rfl rfl (zap rfl fo172_2 (ev1 rfl)) (by simp only [upd, za, zaa]; exact rfl) ?_
                refine zai (zay (g := true) (b := true) rfl rfl rfl) rfl rfl rfl (zav rfl tb169 (ev2 rfl) rfl rfl) (by simp only [upd, za, zaa]; exact rfl) ?_
                refine zai (zay (g := true) (b := true) rfl rfl rfl) rfl rfl rfl (zah [] [0] [] rfl (ev2 rfl) (ec (ev1 rfl) en) rfl rfl (blk6_d _) rfl rfl rfl rfl rfl rfl) (by simp only [upd, za, zaa]; exact rfl) ?_
                refine zai (zay (g := true) (b := true) rfl rfl rfl) rfl rfl rfl (op_not rfl (ev2 rfl)) (by simp only [upd, za, zaa]; exact rfl) ?_
                refine zai (zan (b := false) rfl rfl rfl) rfl rfl rfl (zaz rfl (ev2 rfl) (ev3 rfl (fun _ => rfl))) (by simp only [upd, za, zaa]; exact rfl) ?_
                refine zab rfl rfl rfl (op_or rfl (ev1 rfl) (ev3 rfl (fun _ => rfl))) ?_
                refine zae ?_
                refine zaw rfl (fun c15 => ?_) (fun c15 => ?_)
                · refine zaf ?_
                  refine zac ?_
                  refine zab rfl rfl rfl (zad (.inr rfl) (ev1 rfl)) ?_
                  refine zae ?_
                  refine zau ?_
                  refine kend0 (rs1 rfl (rv_t rfl)) rfl ?_
                  have hb : opB o = false := by
                    unfold opB
                    simp_all [mostK, errz, eqI_dec, errOr_z]
                    all_goals (first | (intros; omega) | (intros; simp_all; done))
                  rw [hb]
                  rfl
                · refine zak ?_
                  refine zac ?_
                  refine zab rfl rfl rfl ((op_add' rfl (ev1 rfl) (ev1 rfl) (fun _ => IntWalk.i64_in _ (by omega))).cast (d' := .val (.int .i64 7)) (by kernel_rfl)) ?_
                  refine zab rfl rfl rfl (zad (.inl rfl) (ev1 rfl)) ?_
                  refine zae ?_
                  refine dloop_step ?_
                  refine zaf ?_
                  refine zac ?_
                  refine zab rfl rfl rfl ((op_lss rfl (ev1 rfl) (ev1 rfl)).cast (d' := .val (.bool true)) (by kernel_rfl)) ?_
                  refine zae ?_
                  refine zaf ?_
                  refine dwp_if_t rfl (rfl) ?_
                  refine zak ?_
                  refine zaf ?_
                  refine zat ?_
                  refine zaf ?_
                  refine zaj 1 (by simp only [holes, List.cons_append, List.nil_append]; exact rfl) ?_
                  refine zac ?_
                  refine zab rfl rfl rfl (zad (.inl rfl) (ev1 rfl)) ?_
                  refine zab rfl rfl rfl (op_ixwr (7) rfl av173 (ev1 rfl) (ev1 rfl) (fun _ => rfl) (fun _ => by decide) (Nat.le_of_ble_eq_true rfl)) ?_
                  refine zam rfl rfl rfl (zaq 9 rfl zr172 rfl) (by simp only [upd, za, zaa]; exact rfl) ?_
                  refine zab rfl rfl rfl (zad (.inr rfl) (ev1 rfl)) ?_
                  refine zax rfl rfl (op_stam rfl tb172 (ev1 rfl) (ev1 rfl) rfl rfl rfl rfl) (by simp only [upd, za, zaa]; exact rfl) ?_
                  refine zae ?_
                  refine zaf ?_
                  refine zac ?_
                  refine zab rfl rfl rfl (zap rfl fo164_0 (ev1 rfl)) ?_
                  refine zab rfl rfl rfl (zav rfl tb3 (ev1 rfl) rfl rfl) ?_
                  refine zab rfl rfl rfl (zad (.inl rfl) (ev1 rfl)) ?_
                  refine zab rfl rfl rfl ((op_shr (7) rfl (ev1 rfl) (ev1 rfl) (fun _ => ⟨rfl, by decide⟩)).cast (d' := .val (.int .i64 1)) (by kernel_rfl)) ?_
                  refine zab rfl rfl rfl ((op_iand rfl (ev1 rfl) (ev1 rfl)).cast (d' := .val (.int .i64 1)) (by kernel_rfl)) ?_
                  refine zab rfl rfl rfl ((zb rfl (ev1 rfl) (ev1 rfl)).cast (d' := .val (.bool true)) (by kernel_rfl)) ?_
                  refine zab rfl rfl rfl (zad (.inl rfl) (ev1 rfl)) ?_
                  refine zai (zar (b := true) rfl rfl rfl) rfl rfl rfl (zap rfl fo172_1 (ev1 rfl)) (by simp only [upd, za, zaa]; exact rfl) ?_
                  refine zai (zar (b := true) rfl rfl rfl) rfl rfl rfl (zav rfl tb168 (ev2 rfl) rfl rfl) (by simp only [upd, za, zaa]; exact rfl) ?_
                  refine zai (zar (b := true) rfl rfl rfl) rfl rfl rfl (op_ldmw rfl tb164 (ev1 rfl) rfl rfl) (by simp only [upd, za, zaa]; exact rfl) ?_
                  refine zai (zar (b := true) rfl rfl rfl) rfl rfl rfl (zah [] [0] [] rfl (ev2 rfl) (ec (ev2 rfl) (ec (ev1 rfl) en)) rfl rfl (fit7_d _ _ _ _ _) rfl rfl rfl rfl rfl rfl) (by simp only [upd, za, zaa]; exact rfl) ?_
                  refine zai (zar (b := true) rfl rfl rfl) rfl rfl rfl (op_not rfl (ev2 rfl)) (by simp only [upd, za, zaa]; exact rfl) ?_
                  refine zab rfl rfl rfl (zaz rfl (ev1 rfl) (ev3 rfl (fun _ => rfl))) ?_
                  refine zab rfl rfl rfl (zad (.inl rfl) (ev1 rfl)) ?_
                  refine zag (zan rfl rfl rfl) rfl rfl rfl (zap rfl fo164_0 (ev1 rfl)) ?_
                  refine zag (zan rfl rfl rfl) rfl rfl rfl (zav rfl tb3 (ev2 rfl) rfl rfl) ?_
                  refine zag (zan rfl rfl rfl) rfl rfl rfl (zad (.inl rfl) (ev1 rfl)) ?_
                  refine zag (zan rfl rfl rfl) rfl rfl rfl ((op_shr (7) rfl (ev2 rfl) (ev2 rfl) (fun _ => ⟨rfl, by decide⟩)).cast (d' := .val (.int .i64 1)) (by kernel_rfl)) ?_
                  refine zag (zan rfl rfl rfl) rfl rfl rfl ((op_iand rfl (ev2 rfl) (ev1 rfl)).cast (d' := .val (.int .i64 1)) (by kernel_rfl)) ?_
                  refine zag (zan rfl rfl rfl) rfl rfl rfl ((zb rfl (ev2 rfl) (ev1 rfl)).cast (d' := .val (.bool false)) (by kernel_rfl)) ?_
                  refine zag (zan rfl rfl rfl) rfl rfl rfl (zad (.inl rfl) (ev2 rfl)) ?_
                  refine zag (zay rfl rfl rfl) rfl rfl rfl (zap rfl fo172_2 (ev1 rfl)) ?_
                  refine zag (zay rfl rfl rfl) rfl rfl rfl (zav rfl tb169 (ev2 rfl) rfl rfl) ?_
                  refine zag (zay rfl rfl rfl) rfl rfl rfl (zah [] [0] [] rfl (ev2 rfl) (ec (ev1 rfl) en) rfl rfl (blk7_d _) rfl rfl rfl rfl rfl rfl) ?_
                  refine zag (zay rfl rfl rfl) rfl rfl rfl (op_not rfl (ev2 rfl)) ?_
                  refine zag (zan rfl rfl rfl) rfl rfl rfl ((zaz rfl (ev2 rfl) (ev2 rfl)).cast (d' := .val (.bool false)) (by rfl)) ?_
                  refine zab rfl rfl rfl (op_or rfl (ev1 rfl) (ev3 rfl id)) ?_
                  refine zae ?_
                  refine zaw rfl (fun c17 => ?_) (fun c17 => ?_)
                  · refine zaf ?_
                    refine zac ?_
                    refine zab rfl rfl rfl (zad (.inr rfl) (ev1 rfl)) ?_
                    refine zae ?_
                    refine zau ?_
                    refine kend0 (rs1 rfl (rv_t rfl)) rfl ?_
                    have hb : opB o = false := by
                      unfold opB
                      simp_all [mostK, errz, eqI_dec, errOr_z]
                      all_goals (first | (intros; omega) | (intros; simp_all; done))
                    rw [hb]
                    rfl
                  · refine zak ?_
                    refine zac ?_
                    refine zab rfl rfl rfl ((op_add' rfl (ev1 rfl) (ev1 rfl) (fun _ => IntWalk.i64_in _ (by omega))).cast (d' := .val (.int .i64 8)) (by kernel_rfl)) ?_
                    refine zab rfl rfl rfl (zad (.inl rfl) (ev1 rfl)) ?_
                    refine zae ?_
                    refine dloop_step ?_
                    refine zaf ?_
                    refine zac ?_
                    refine zab rfl rfl rfl ((op_lss rfl (ev1 rfl) (ev1 rfl)).cast (d' := .val (.bool false)) (by kernel_rfl)) ?_
                    refine zae ?_
                    refine zaf ?_
                    refine dwp_if_f rfl (rfl) ?_
                    refine dwp_exit ?_
                    refine zaf ?_
                    refine zac ?_
                    refine zab rfl rfl rfl (zad (.inr rfl) (ev1 rfl)) ?_
                    refine zae ?_
                    refine zau ?_
                    refine kend0 (rs1 rfl (rv_t rfl)) rfl ?_
                    have hb : opB o = true := by
                      unfold opB
                      simp_all [mostK, errz, eqI_dec, errOr_z]
                      all_goals (first | (intros; omega) | (intros; simp_all; done))
                    rw [hb]
                    rfl
set_option maxRecDepth 4000 in
set_option maxHeartbeats 1000000 in
theorem opc_no (o : OpM) (hk : ¬ (1 ≤ o.kd ∧ o.kd ≤ 8)) : DFun Tryz.prog 92 [.agg (opD o)] [] (.val (.int .i64 (errOr (opB o) 220))) [] := by
  refine zba (N := 54) 0 (by kernel_rfl) Tryz.func92 rfl rfl rfl (by simp only [fr0, Nat.zero_add, Nat.reduceAdd]; exact rfl) rfl fun s0 hs0 => ?_
  refine zaf ?_
  refine zaj 1 (by simp only [holes, List.cons_append, List.nil_append]; exact rfl) ?_
  refine zac ?_
  refine zam rfl rfl rfl (op_boxam 0 rfl (ev1 rfl) rfl) (by simp only [upd, za, zaa]; exact rfl) ?_
  refine zab rfl rfl rfl (zad (.inr rfl) (ev1 rfl)) ?_
  refine zae ?_
  refine zaf ?_
  refine zaj 1 (by simp only [holes, List.cons_append, List.nil_append]; exact rfl) ?_
  refine zac ?_
  refine zab rfl rfl rfl (zap rfl fo68_1 (ev1 rfl)) ?_
  refine zab rfl rfl rfl (zav rfl tb3 (ev1 rfl) rfl rfl) ?_
  refine zab rfl rfl rfl (zah [] [] [] rfl (ev1 rfl) (ec (ev1 rfl) en) rfl rfl (kindOf_no _ hk) rfl rfl rfl rfl rfl rfl) ?_
  refine zab rfl rfl rfl (zad (.inl rfl) (ev1 rfl)) ?_
  refine zab rfl rfl rfl (op_ext rfl (ev1 rfl) rfl) ?_
  refine zab rfl rfl rfl (op_ext rfl (ev1 rfl) rfl) ?_
  refine zam rfl rfl rfl (zaq 1 rfl zr164 rfl) (by simp only [upd, za, zaa]; exact rfl) ?_
  refine zax rfl rfl (op_stwa rfl tb164 (ev1 rfl) (ev1 rfl) rfl rfl rfl rfl) (by simp only [upd, za, zaa]; exact rfl) ?_
  refine zab rfl rfl rfl (zad (.inr rfl) (ev1 rfl)) ?_
  refine zae ?_
  refine zaf ?_
  refine zaf ?_
  refine zac ?_
  refine zab rfl rfl rfl (zad (.inl rfl) (ev1 rfl)) ?_
  refine zab rfl rfl rfl ((op_not rfl (ev1 rfl)).cast (d' := .val (.bool true)) (by kernel_rfl)) ?_
  refine zab rfl rfl rfl (zad (.inl rfl) (ev1 rfl)) ?_
  refine zag (zan (b := true) rfl rfl rfl) rfl rfl rfl (zal (d := .junk)) ?_
  refine zag (zan (b := true) rfl rfl rfl) rfl rfl rfl (zal (d := .junk)) ?_
  refine zag (zan (b := true) rfl rfl rfl) rfl rfl rfl (zal (d := .junk)) ?_
  refine zag (zan (b := true) rfl rfl rfl) rfl rfl rfl (zal (d := .val (.bool false))) ?_
  refine zab rfl rfl rfl ((op_or rfl (ev1 rfl) (ev3 rfl id)).cast (d' := .val (.bool true)) (by rfl)) ?_
  refine zae ?_
  refine dwp_if_t rfl (rfl) ?_
  refine zaf ?_
  refine zac ?_
  refine zab rfl rfl rfl (zad (.inr rfl) (ev1 rfl)) ?_
  refine zae ?_
  refine zau ?_
  refine kend0 (rs1 rfl (rv_t rfl)) rfl ?_
  have hb : opB o = false := by
    unfold opB
    simp
    intros
    omega
  rw [hb]
  rfl
theorem opCheck_d (o : OpM) : DFun Tryz.prog 92 [.agg (opD o)] [] (.val (.int .i64 (errOr (opB o) 220))) [] := by
  by_cases h : 1 ≤ o.kd ∧ o.kd ≤ 8
  · have : o.kd = 1 ∨ o.kd = 2 ∨ o.kd = 3 ∨ o.kd = 4 ∨ o.kd = 5 ∨ o.kd = 6 ∨ o.kd = 7 ∨ o.kd = 8 := by omega
    rcases this with h | h | h | h | h | h | h | h
    · exact opc_1 o h
    · exact opc_2 o h
    · exact opc_3 o h
    · exact opc_4 o h
    · exact opc_5 o h
    · exact opc_6 o h
    · exact opc_7 o h
    · exact opc_8 o h
  · exact opc_no o h
end Go.Proofs.YtnjnhghafjlmbaaGreat
namespace Go.Proofs.YtnjnhghafjlmbaaGreat
set_option linter.unusedVariables false
set_option linter.unusedSimpArgs false
open Go.RowKit
theorem fl29 : fdL Tryz.prog 29 = some [(0, 1), (1, 9), (10, 1), (11, 108)] := by kernel_rfl
theorem sit_d (f : FrM) (l : List Int) (hl : l.length ≤ 1000) : DFun Tryz.prog 26 [.val (.agg (frC f).toArray), .slf 1 l.length (l.flatMap inI)] [] (.slf 1 (sitF f l).length ((sitF f l).flatMap inI)) [] := by
  unfold sitF
  cases hf : frB f
  · exact (sit_no f l hf).wk (Wk.slf0 1)
  · cases l with
    | nil =>
      have h := freeze (sit_all f hf) (vw_fI (l := sitL f) rfl rfl rfl (by rw [← glTo_all]; exact faG_row (p := fun i => (f.st i).inn) (g := fun i : Nat => (i : Int)) rfl 9))
      exact h
    | cons a l =>
      have h := freeze (sit_some f (a :: l) hf (by simp) hl) (vw_fI (l := (a :: l).filter (inS f)) rfl rfl rfl (by
        have h1 := faG_row (p := fun i => inS f ((a :: l).getD i 0)) (g := fun i : Nat => (a :: l).getD i 0) (Bs := [rowI []]) (q := 0) rfl (a :: l).length
        rw [glTo_list (inS f) (a :: l) _ (Nat.le_refl _), List.take_length] at h1
        exact h1))
      exact h
end Go.Proofs.YtnjnhghafjlmbaaGreat
namespace Go.Proofs.YtnjnhghafjlmbaaGreat
set_option linter.unusedVariables false
set_option linter.unusedSimpArgs false
open Go.RowKit
def laC (la : Nat → I3) : List Value := idc (la 0) ++ (idc (la 1) ++ (idc (la 2) ++ (idc (la 3) ++ (idc (la 4) ++ (idc (la 5) ++ (idc (la 6) ++ (idc (la 7) ++ idc (la 8))))))))
def zLa : Nat → I3 := fun _ => zI3
theorem laC_len (la : Nat → I3) : (laC la).length = 27 := rfl
theorem laC_q' (la : Nat → I3) : ∀ j, j < 9 → (laC la)[j * 3 + 2]? = some (.int .u64 (la j).q) := lt9 rfl rfl rfl rfl rfl rfl rfl rfl rfl
theorem laC_q {la : Nat → I3} {p j : Nat} (hp : p = j * 3 + 2) (hj : j < 9) : (laC la)[p]? = some (.int .u64 (la j).q) := by rw [hp]; exact laC_q' la j hj
theorem laC_set' (la : Nat → I3) (i : I3) : ∀ j, j < 9 → setL (laC la) (j * 3) (idc i) = laC (upV la j i) := lt9 (by kernel_rfl) (by kernel_rfl) (by kernel_rfl) (by kernel_rfl) (by kernel_rfl) (by kernel_rfl) (by kernel_rfl) (by kernel_rfl) (by kernel_rfl)
theorem laC_set {la : Nat → I3} {i : I3} {p j : Nat} (hp : p = j * 3) (hj : j < 9) : setL (laC la) p (idc i) = laC (upV la j i) := by rw [hp]; exact laC_set' la i j hj
theorem laC_congr {a b : Nat → I3} (h : ∀ i, i < 9 → a i = b i) : laC a = laC b := by
  unfold laC
  rw [h 0 (by omega), h 1 (by omega), h 2 (by omega), h 3 (by omega), h 4 (by omega), h 5 (by omega), h 6 (by omega), h 7 (by omega), h 8 (by omega)]
/-- a log -/
structure LogM where
  fo : Nat
  bs : Vec
  ops : List OpM
def logL (fo : Nat) (bs : Vec) (d : D) : List D := [.val (.int .u64 fo), .val (.int .u64 (bs 0)), .val (.int .u64 (bs 1)), .val (.int .u64 (bs 2)), .val (.int .u64 (bs 3)), .val (.int .u64 (bs 4)), .val (.int .u64 (bs 5)), .val (.int .u64 (bs 6)), .val (.int .u64 (bs 7)), .val (.int .u64 (bs 8)), d]
abbrev opsD (l : List OpM) : D := .slm 19 l.length (l.flatMap opD)
def logD (l : LogM) : List D := logL l.fo l.bs (opsD l.ops)
def la0 (fo : Nat) (bs : Vec) : Nat → I3 := fun i => ⟨fo, i, bs i⟩
def stepE (fo : Nat) (s : (Nat → I3) × I3) (o : OpM) : Option ((Nat → I3) × I3) :=
  if (opB o && lessR s.2 o.id && decide ((fo : Int) < o.id.t) && decide (o.id.q = (s.1 o.id.s.toNat).q + 1)) = true then some (upV s.1 o.id.s.toNat o.id, o.id) else none
def endE (fo : Nat) : (Nat → I3) × I3 → List OpM → Option ((Nat → I3) × I3)
  | s, [] => some s
  | s, o :: l => (stepE fo s o).bind fun s' => endE fo s' l
def endR (l : LogM) : (Nat → I3) × Int := if (decide (l.fo ≤ LAST) && vB l.bs) = true then (match endE l.fo (la0 l.fo l.bs, zI3) l.ops with | some s => (s.1, 0) | none => (zLa, 240)) else (zLa, 240)
def logB (l : LogM) : Bool := decide (l.fo ≤ LAST) && vB l.bs && (endE l.fo (la0 l.fo l.bs, zI3) l.ops).isSome
theorem endE_drop {fo : Nat} {s : (Nat → I3) × I3} {l : List OpM} {k : Nat} (h : k < l.length) : endE fo s (l.drop k) = (stepE fo s l[k]).bind fun s' => endE fo s' (l.drop (k + 1)) := by
  rw [List.drop_eq_getElem_cons h]
  rfl
theorem stepE_no {fo : Nat} {s : (Nat → I3) × I3} {o : OpM} (h : (opB o && lessR s.2 o.id && decide ((fo : Int) < o.id.t)) = false) : stepE fo s o = none := by
  unfold stepE
  rw [h, Bool.false_and, if_neg (by decide)]
theorem stepE_gap {fo : Nat} {s : (Nat → I3) × I3} {o : OpM} (h : ¬ o.id.q = (s.1 o.id.s.toNat).q + 1) : stepE fo s o = none := by
  unfold stepE
  rw [decide_eq_false h, Bool.and_false, if_neg (by decide)]
theorem stepE_yes {fo : Nat} {s : (Nat → I3) × I3} {o : OpM} (h : (opB o && lessR s.2 o.id && decide ((fo : Int) < o.id.t)) = true) (h2 : o.id.q = (s.1 o.id.s.toNat).q + 1) : stepE fo s o = some (upV s.1 o.id.s.toNat o.id, o.id) := by
  unfold stepE
  rw [h, decide_eq_true h2]; rfl
theorem opB_id {o : OpM} (h : opB o = true) : mayR o.id = true := by
  unfold opB at h
  simp only [Bool.and_eq_true] at h
  exact h.1.1.1.1.1.1.2
theorem mayR_iff {i : I3} : mayR i = true ↔ (1 ≤ i.t ∧ i.t ≤ 4611686018427387904) ∧ (1 ≤ i.s ∧ i.s ≤ 8) ∧ (1 ≤ i.q ∧ i.q ≤ 4611686018427387904) := by
  unfold mayR isNum isSt
  simp
theorem ends1_t (l : LogM) (h : (decide ((4611686018427387904 : Int) < (l.fo : Int)) || (errOr (vB l.bs) 230 != 0)) = true) : (decide (l.fo ≤ LAST) && vB l.bs) = false := by
  rw [natover, errnz _ (by decide)] at h
  cases h1 : decide (l.fo ≤ LAST) <;> cases h2 : vB l.bs <;> simp_all
theorem ends1_f (l : LogM) (h : (decide ((4611686018427387904 : Int) < (l.fo : Int)) || (errOr (vB l.bs) 230 != 0)) = false) : (decide (l.fo ≤ LAST) && vB l.bs) = true := by
  rw [natover, errnz _ (by decide)] at h
  cases h1 : decide (l.fo ≤ LAST) <;> cases h2 : vB l.bs <;> simp_all
def laTo (fo : Nat) (bs : Vec) (k : Nat) : Nat → I3 := fun i => if i < k then ⟨fo, i, bs i⟩ else zI3
theorem laTo_0 (fo : Nat) (bs : Vec) : laTo fo bs 0 = zLa := by funext i; unfold laTo; rw [if_neg (by omega)]; rfl
theorem laTo_step (fo : Nat) (bs : Vec) (k : Nat) : upV (laTo fo bs k) k ⟨fo, k, bs k⟩ = laTo fo bs (k + 1) := by
  funext i
  unfold upV laTo
  by_cases e : i = k
  · subst e; rw [if_pos rfl, if_pos (by omega)]
  · rw [if_neg e]
    by_cases h2 : i < k
    · rw [if_pos h2, if_pos (by omega)]
    · rw [if_neg h2, if_neg (by omega)]
theorem laTo_9 (fo : Nat) (bs : Vec) : laC (laTo fo bs 9) = laC (la0 fo bs) := laC_congr fun i hi => by unfold laTo la0; rw [if_pos hi]
/-- no number is too great to go on -/
def laOk (la : Nat → I3) : Prop := ∀ i, i < 9 → 0 ≤ (la i).q ∧ (la i).q ≤ 4611686018427387904
theorem laOk_0 {fo : Nat} {bs : Vec} (h : vB bs = true) : laOk (la0 fo bs) := fun i hi => by
  have := (vB_iff.1 h).2 i hi
  exact ⟨Int.natCast_nonneg _, by show ((bs i : Nat) : Int) ≤ _; have : bs i ≤ 4611686018427387904 := this; omega⟩
theorem laOk_up {la : Nat → I3} {j : Nat} {i : I3} (h : laOk la) (hi : mayR i = true) : laOk (upV la j i) := fun k hk => by
  unfold upV
  split
  · have := mayR_iff.1 hi
    omega
  · exact h k hk
theorem ar121 : arE Tryz.prog 121 = some (9, 3) := by kernel_rfl
theorem fo58_0 : fdO Tryz.prog 58 0 = some 0 := by kernel_rfl
theorem fo58_1 : fdO Tryz.prog 58 1 = some 1 := by kernel_rfl
theorem fo58_2 : fdO Tryz.prog 58 2 = some 10 := by kernel_rfl
theorem sl56 : slE Tryz.prog 56 = some (68, 19, 144) := by kernel_rfl
theorem tb121 : tyB Tryz.prog 121 = some (true, 27) := by kernel_rfl
theorem tb56 : tyB Tryz.prog 56 = some (false, 1) := by kernel_rfl
theorem tb58 : tyB Tryz.prog 58 = some (true, 11) := by kernel_rfl
theorem tb68 : tyB Tryz.prog 68 = some (true, 19) := by kernel_rfl
theorem zr121 : zrC Tryz.prog 121 = some (laC zLa) := by kernel_rfl
theorem zr68 : zrC Tryz.prog 68 = some [.int .u64 0, .int .i64 0, .int .u64 0, .int .i64 0, .int .i64 0, .int .i64 0, .int .i64 0, .int .i64 0, .int .i64 0, .int .u8 0, .int .u8 0, .int .u8 0, .int .u8 0, .int .i64 0, .int .i64 0, .slice none 0 0, .int .u64 0, .int .i64 0, .int .u64 0] := by kernel_rfl
theorem endR_none {l : LogM} (h : endE l.fo (la0 l.fo l.bs, zI3) l.ops = none) : endR l = (zLa, 240) := by
  unfold endR
  rw [h]
  split <;> rfl
theorem endR_bad {l : LogM} (h : (decide (l.fo ≤ LAST) && vB l.bs) = false) : endR l = (zLa, 240) := by
  unfold endR
  rw [h, if_neg (by decide)]
theorem endR_some {l : LogM} {s : (Nat → I3) × I3} (hb : (decide (l.fo ≤ LAST) && vB l.bs) = true) (h : endE l.fo (la0 l.fo l.bs, zI3) l.ops = some s) : endR l = (s.1, 0) := by
  unfold endR
  rw [h, hb, if_pos rfl]
theorem endR_errno (l : LogM) : (endR l).2 = errOr (logB l) 240 := by
  unfold endR logB
  cases hb : (decide (l.fo ≤ LAST) && vB l.bs)
  · rfl
  · cases h : endE l.fo (la0 l.fo l.bs, zI3) l.ops <;> rfl
theorem st_t {o : OpM} {ah : I3} {fo : Nat} (h : (((errOr (opB o) 220 != 0) || !lessR ah o.id) || decide (o.id.t ≤ (fo : Int))) = true) : (opB o && lessR ah o.id && decide ((fo : Int) < o.id.t)) = false := by
  rw [errnz _ (by decide)] at h
  cases h1 : opB o <;> cases h2 : lessR ah o.id <;> simp_all
theorem st_f {o : OpM} {ah : I3} {fo : Nat} (h : (((errOr (opB o) 220 != 0) || !lessR ah o.id) || decide (o.id.t ≤ (fo : Int))) = false) : (opB o && lessR ah o.id && decide ((fo : Int) < o.id.t)) = true ∧ mayR o.id = true := by
  rw [errnz _ (by decide)] at h
  cases h1 : opB o <;> cases h2 : lessR ah o.id <;> simp_all
  exact opB_id h1
set_option maxRecDepth 4000 in
set_option maxHeartbeats 1000000 in
theorem ends_d (l : LogM) : DFun Tryz.prog 77 [.agg (logD l)] [] (.tup [.val (.agg (laC (endR l).1).toArray), .val (.int .i64 (endR l).2)]) [] := by
  refine zba (N := 83) 0 (by kernel_rfl) Tryz.func77 rfl rfl rfl (by simp only [fr0, Nat.zero_add, Nat.reduceAdd]; exact rfl) rfl fun s0 hs0 => ?_
  refine zaf ?_
  refine zaj 2 (by simp only [holes, List.cons_append, List.nil_append]; exact rfl) ?_
  refine zac ?_
  refine zam rfl rfl rfl (op_boxam 0 rfl (ev1 rfl) rfl) (by simp only [upd, za, zaa]; exact rfl) ?_
  refine zam rfl rfl rfl (zaq 1 rfl zr121 rfl) (by simp only [upd, za, zaa]; exact rfl) ?_
  refine zab rfl rfl rfl (zad (.inr rfl) (ev1 rfl)) ?_
  refine zae ?_
  refine zaf ?_
  refine zaf ?_
  refine zac ?_
  refine zab rfl rfl rfl (zap rfl fo58_0 (ev1 rfl)) ?_
  refine zab rfl rfl rfl (zav rfl tb22 (ev1 rfl) rfl rfl) ?_
  refine zab rfl rfl rfl (op_gtr rfl (ev1 rfl) (ev1 rfl)) ?_
  refine zab rfl rfl rfl (zad (.inl rfl) (ev1 rfl)) ?_
  refine zag (zan rfl rfl rfl) rfl rfl rfl (zap rfl fo58_1 (ev1 rfl)) ?_
  refine zag (zan rfl rfl rfl) rfl rfl rfl (op_ldmv (R := [_, _, _, _, _, _, _, _, _]) rfl tb24 (ev2 rfl) rfl rfl rfl) ?_
  refine zag (zan rfl rfl rfl) rfl rfl rfl (zah [] [] [] rfl (ev1 rfl) (ec (ev2 rfl) en) rfl rfl (vCheck_d l.bs) rfl rfl rfl rfl rfl rfl) ?_
  refine zag (zan rfl rfl rfl) rfl rfl rfl (op_neq rfl (ev2 rfl) (ev1 rfl)) ?_
  refine zab rfl rfl rfl (op_or rfl (ev1 rfl) (ev3 rfl id)) ?_
  refine zae ?_
  refine zaw rfl (fun c1 => ?_) (fun c1 => ?_)
  · have hb := ends1_t l c1
    refine zaf ?_
    refine zac ?_
    refine zab rfl rfl rfl (op_build0a rfl ar121 zr121) ?_
    refine zax rfl rfl (op_stwa rfl tb121 (ev1 rfl) (ev1 rfl) rfl rfl rfl rfl) (by simp only [upd, za, zaa]; exact rfl) ?_
    refine zab rfl rfl rfl (zad (.inr rfl) (ev1 rfl)) ?_
    refine zae ?_
    refine zau ?_
    refine kend0 (rs2 rfl (rv_w tb121 rfl rfl (laC_len _)) (rv_t rfl)) rfl ?_
    rw [endR_bad hb]
  · have hb := ends1_f l c1
    have hv : vB l.bs = true := (Bool.and_eq_true _ _ ▸ hb).2
    refine zak ?_
    refine zaf ?_
    refine zaj 1 (by simp only [holes, List.cons_append, List.nil_append]; exact rfl) ?_
    refine zac ?_
    refine zam rfl rfl rfl (zaq 2 rfl zr121 rfl) (by simp only [upd, za, zaa]; exact rfl) ?_
    refine zae ?_
    refine zaf ?_
    refine zaf ?_
    refine zac ?_
    refine zab rfl rfl rfl (zap rfl fo58_1 (ev1 rfl)) ?_
    refine zab rfl rfl rfl (op_ldmv (R := [_, _, _, _, _, _, _, _, _]) rfl tb24 (ev1 rfl) rfl rfl rfl) ?_
    refine zab rfl rfl rfl (zad (.inl rfl) (ev1 rfl)) ?_
    refine zae ?_
    refine zat ?_
    refine dwp_loopS ⟨hs0, rfl⟩ (α := Nat) (fun k => [(22, .val (.int .i64 (k : Int)))]) [(1, _), (2, _), (4, _), (21, _)] (fun k => [(2, .flat 121 (laC (laTo l.fo l.bs k)))]) [_, _, .hole] (fun k => k ≤ 9) (fun k => 9 - k) 0 [0, 1, 2] (by omega) rfl ⟨rfl, rfl, rfl, rfl, trivial⟩ ⟨rfl, trivial⟩ ⟨rfl, rfl, by rw [laTo_0]; rfl, trivial⟩ ?_
    intro k hx
    simp only [upd, za, zaa, List.cons_append, List.nil_append]
    have hk := hx
    refine zaf ?_
    refine zac ?_
    refine zab rfl rfl rfl (op_lss rfl (ev1 rfl) (ev1 rfl)) ?_
    refine zae ?_
    refine zaf ?_
    refine zaw rfl (fun c2 => ?_) (fun c2 => ?_)
    · try simp only [decide_eq_true_eq, decide_eq_false_iff_not, beq_iff_eq, bne_iff_ne, beq_eq_false_iff_ne, bne_eq_false_iff_eq, Bool.not_eq_true', Bool.not_eq_false', Bool.and_eq_true, Bool.or_eq_true, Bool.or_eq_false_iff, ne_eq, Decidable.not_not, Int.not_lt, Int.not_le] at c2
      refine zak ?_
      refine zaf ?_
      refine zat ?_
      refine zaf ?_
      refine zac ?_
      refine zab rfl rfl rfl (zad (.inl rfl) (ev1 rfl)) ?_
      refine zab rfl rfl rfl (op_ixu (k) rfl aw24 (ev1 rfl) (ev1 rfl) (fun _ => rfl) (by omega) (c9_at l.bs _ (by omega))) ?_
      refine zab rfl rfl rfl (zad (.inr rfl) (ev1 rfl)) ?_
      refine zab rfl rfl rfl (zad (.inr rfl) (ev1 rfl)) ?_
      refine zae ?_
      refine zac ?_
      refine zab rfl rfl rfl (zad (.inl rfl) (ev1 rfl)) ?_
      refine zab rfl rfl rfl (zap rfl fo58_0 (ev1 rfl)) ?_
      refine zab rfl rfl rfl (zav rfl tb22 (ev1 rfl) rfl rfl) ?_
      refine zab rfl rfl rfl (zad (.inl rfl) (ev1 rfl)) ?_
      refine zab rfl rfl rfl (zad (.inl rfl) (ev1 rfl)) ?_
      refine zab rfl rfl rfl (op_build (ps := [(0, .tmp 28), (1, .tmp 29), (2, .tmp 30)]) rfl fl61 zr61 (vc (ev1 rfl) (vc (ev1 rfl) (vc (ev1 rfl) vn))) rfl rfl) ?_
      refine zab rfl rfl rfl (op_ixl rfl ar121 (ev1 rfl) (ev1 rfl) (fun _ => by omega)) ?_
      refine zax rfl rfl (op_st (C := idc ⟨l.fo, k, l.bs k⟩) rfl tb61 (ev1 rfl) (ev1 rfl) rfl rfl rfl rfl (by simp only [laC_len]; show _ + 3 ≤ _; omega) (laC_set (j := k) (by simp) (by omega))) (by simp only [upd, za, zaa]; exact rfl) ?_
      refine zae ?_
      refine zac ?_
      refine zab rfl rfl rfl (op_add' rfl (ev1 rfl) (ev1 rfl) (fun _ => IntWalk.i64_in _ (by omega))) ?_
      refine zab rfl rfl rfl (zad (.inl rfl) (ev1 rfl)) ?_
      refine zae ?_
      refine ⟨k + 1, [0, 1, 2], by omega, by simp only []; omega, rfl, ⟨rfl, rfl, rfl, rfl, rfl, trivial⟩, ⟨rfl, rfl, by rw [← laTo_step]; rfl, trivial⟩⟩
    · try simp only [decide_eq_true_eq, decide_eq_false_iff_not, beq_iff_eq, bne_iff_ne, beq_eq_false_iff_ne, bne_eq_false_iff_eq, Bool.not_eq_true', Bool.not_eq_false', Bool.and_eq_true, Bool.or_eq_true, Bool.or_eq_false_iff, ne_eq, Decidable.not_not, Int.not_lt, Int.not_le] at c2
      refine dwp_exit ?_
      refine zaf ?_
      have hk9 : k = 9 := by omega
      subst hk9
      rw [laTo_9]
      refine zaj 1 (by simp only [holes, List.cons_append, List.nil_append]; exact rfl) ?_
      refine zac ?_
      refine zab rfl rfl rfl (op_build0 rfl fl61 zr61) ?_
      refine zam rfl rfl rfl (zaq 3 rfl zr61 rfl) (by simp only [upd, za, zaa]; exact rfl) ?_
      refine zax rfl rfl (op_stwa rfl tb61 (ev1 rfl) (ev1 rfl) rfl rfl rfl rfl) (by simp only [upd, za, zaa]; exact rfl) ?_
      refine zae ?_
      refine zaf ?_
      refine zaf ?_
      refine zac ?_
      refine zab rfl rfl rfl (zap rfl fo58_2 (ev1 rfl)) ?_
      refine zab rfl rfl rfl (zav rfl tb56 (ev1 rfl) rfl rfl) ?_
      refine zab rfl rfl rfl (op_lenm rfl sl56 (ev1 rfl)) ?_
      refine zab rfl rfl rfl (zad (.inl rfl) (ev1 rfl)) ?_
      refine zae ?_
      refine zat ?_
      refine dwp_loopS ⟨hs0, rfl⟩ (α := Nat × (Nat → I3) × I3) (fun x => [(38, .val (.int .i64 (x.1 : Int)))]) [(1, _), (2, _), (4, _), (7, _), (36, _), (37, _)] (fun x => [(2, .flat 121 (laC x.2.1)), (3, .flat 61 (idc x.2.2))]) [_, _, .hole, .hole] (fun x => x.1 ≤ l.ops.length ∧ endE l.fo (la0 l.fo l.bs, zI3) l.ops = endE l.fo x.2 (l.ops.drop x.1) ∧ laOk x.2.1) (fun x => l.ops.length - x.1) (0, la0 l.fo l.bs, zI3) [0, 1, 2, 3] (⟨by simp, by simp, laOk_0 hv⟩) rfl ⟨rfl, rfl, rfl, rfl, rfl, rfl, trivial⟩ ⟨rfl, trivial⟩ ⟨rfl, rfl, rfl, rfl, trivial⟩ ?_
      intro x hx
      simp only [upd, za, zaa, List.cons_append, List.nil_append]
      obtain ⟨j, la, ah⟩ := x
      obtain ⟨hj, he, hok⟩ := hx
      dsimp only at hj he hok ⊢
      refine zaf ?_
      refine dwp_lenm (t := 36) rfl fun hl36 hL36 => ?_
      refine zac ?_
      refine zab rfl rfl rfl (op_lss rfl (ev1 rfl) (ev1 rfl)) ?_
      refine zae ?_
      refine zaf ?_
      refine zaw rfl (fun c3 => ?_) (fun c3 => ?_)
      · try simp only [decide_eq_true_eq, decide_eq_false_iff_not, beq_iff_eq, bne_iff_ne, beq_eq_false_iff_ne, bne_eq_false_iff_eq, Bool.not_eq_true', Bool.not_eq_false', Bool.and_eq_true, Bool.or_eq_true, Bool.or_eq_false_iff, ne_eq, Decidable.not_not, Int.not_lt, Int.not_le] at c3
        refine zak ?_
        refine zaf ?_
        refine zat ?_
        refine zaf ?_
        refine zaj 1 (by simp only [holes, List.cons_append, List.nil_append]; exact rfl) ?_
        refine zac ?_
        refine zab rfl rfl rfl (op_ixmr (j) (by decide) rfl sl56 (ev1 rfl) (ev1 rfl) (fun _ => rfl) (by omega) (fun _ => rfl)) ?_
        refine zab rfl rfl rfl (op_lddr rfl tb68 (ev1 rfl) rfl rfl) ?_
        refine zam rfl rfl rfl (zaq 4 rfl zr68 rfl) (by simp only [upd, za, zaa]; exact rfl) ?_
        refine zax rfl rfl (op_stam rfl tb68 (ev1 rfl) (ev1 rfl) rfl rfl rfl rfl) (by simp only [upd, za, zaa]; exact rfl) ?_
        refine zae ?_
        refine zaf ?_
        refine zaf ?_
        refine zac ?_
        refine zab rfl rfl rfl (op_ldmw rfl tb68 (ev1 rfl) rfl rfl) ?_
        refine zab rfl rfl rfl (zah [] [] [] rfl (ev1 rfl) (ec (ev1 rfl) en) rfl rfl (opCheck_d _) rfl rfl rfl rfl rfl rfl) ?_
        refine zab rfl rfl rfl (op_neq rfl (ev1 rfl) (ev1 rfl)) ?_
        refine zab rfl rfl rfl (zad (.inl rfl) (ev1 rfl)) ?_
        refine zag (zan rfl rfl rfl) rfl rfl rfl (zas rfl tb61 (ev1 rfl) rfl rfl) ?_
        refine zag (zan rfl rfl rfl) rfl rfl rfl (zap rfl fo68_0 (ev1 rfl)) ?_
        refine zag (zan rfl rfl rfl) rfl rfl rfl (op_ldmv (R := [_, _, _]) rfl tb61 (ev2 rfl) rfl rfl rfl) ?_
        refine zag (zan rfl rfl rfl) rfl rfl rfl (zah [] [] [] rfl (ev1 rfl) (ec (ev2 rfl) (ec (ev2 rfl) en)) rfl rfl (idLess_d _ _) rfl rfl rfl rfl rfl rfl) ?_
        refine zag (zan rfl rfl rfl) rfl rfl rfl (op_not rfl (ev2 rfl)) ?_
        refine zab rfl rfl rfl (op_or rfl (ev1 rfl) (ev3 rfl id)) ?_
        refine zab rfl rfl rfl (zad (.inl rfl) (ev1 rfl)) ?_
        refine zag (zan rfl rfl rfl) rfl rfl rfl (zap rfl fo68_0 (ev1 rfl)) ?_
        refine zag (zan rfl rfl rfl) rfl rfl rfl (zap rfl fo61_0 (ev2 rfl)) ?_
        refine zag (zan rfl rfl rfl) rfl rfl rfl (zav rfl tb22 (ev2 rfl) rfl rfl) ?_
        refine zag (zan rfl rfl rfl) rfl rfl rfl (zap rfl fo58_0 (ev1 rfl)) ?_
        refine zag (zan rfl rfl rfl) rfl rfl rfl (zav rfl tb22 (ev2 rfl) rfl rfl) ?_
        refine zag (zan rfl rfl rfl) rfl rfl rfl (op_leq rfl (ev2 rfl) (ev2 rfl)) ?_
        refine zab rfl rfl rfl (op_or rfl (ev1 rfl) (ev3 rfl id)) ?_
        refine zae ?_
        refine zaw rfl (fun c2 => ?_) (fun c2 => ?_)
        · have hst := st_t c2
          refine zaf ?_
          refine zac ?_
          refine zab rfl rfl rfl (op_build0a rfl ar121 zr121) ?_
          refine zax rfl rfl (op_stwa rfl tb121 (ev1 rfl) (ev1 rfl) rfl rfl rfl rfl) (by simp only [upd, za, zaa]; exact rfl) ?_
          refine zab rfl rfl rfl (zad (.inr rfl) (ev1 rfl)) ?_
          refine zae ?_
          refine zau ?_
          refine kend0 (rs2 rfl (rv_w tb121 rfl rfl (laC_len _)) (rv_t rfl)) rfl ?_
          rw [endR_none (by rw [he, endE_drop (by omega), stepE_no (s := (la, ah)) hst]; rfl)]
        · obtain ⟨hst, hid⟩ := st_f c2
          have hs8 := mayR_iff.1 hid
          have hq0 := hok (l.ops[j]).id.s.toNat (by omega)
          refine zak ?_
          refine zaf ?_
          refine zaf ?_
          refine dwp_draw [([], []), ([], []), ([4], []), ([], []), ([], []), ([4], []), ([], []), ([], []), ([2], []), ([], []), ([], [])] mixed (by kernel_rfl) ?_
          refine lex_r rfl rfl (zap rfl fo68_0 (ev1 rfl)) ?_
          refine lex_r rfl rfl (zap rfl fo61_2 (ev1 rfl)) ?_
          refine lex_r rfl rfl (zav rfl tb22 (ev1 rfl) rfl rfl) ?_
          refine lex_r rfl rfl (zap rfl fo68_0 (ev1 rfl)) ?_
          refine lex_r rfl rfl (zap rfl fo61_1 (ev1 rfl)) ?_
          refine lex_r rfl rfl (zav rfl tb3 (ev1 rfl) rfl rfl) ?_
          refine lex_r rfl rfl (op_ixl rfl ar121 (ev1 rfl) (ev1 rfl) (fun _ => by omega)) ?_
          refine lex_r rfl rfl (zap rfl fo61_2 (ev1 rfl)) ?_
          refine lex_r rfl rfl (op_ldo rfl tb22 (ev1 rfl) rfl (laC_q (j := (l.ops[j]).id.s.toNat) (by omega) (by omega))) ?_
          refine lex_r rfl rfl (op_add' rfl (ev1 rfl) (ev1 rfl) (fun _ => IntWalk.u64_in _ (by omega))) ?_
          refine lex_r rfl rfl (op_neq rfl (ev1 rfl) (ev1 rfl)) ?_
          refine lex_nil ?_
          refine zaw rfl (fun c3 => ?_) (fun c3 => ?_)
          · try simp only [decide_eq_true_eq, decide_eq_false_iff_not, beq_iff_eq, bne_iff_ne, beq_eq_false_iff_ne, bne_eq_false_iff_eq, Bool.not_eq_true', Bool.not_eq_false', Bool.and_eq_true, Bool.or_eq_true, Bool.or_eq_false_iff, ne_eq, Decidable.not_not, Int.not_lt, Int.not_le] at c3
            have hq : ¬ (l.ops[j]).id.q = (la (l.ops[j]).id.s.toNat).q + 1 := c3
            refine zaf ?_
            refine zac ?_
            refine zab rfl rfl rfl (op_build0a rfl ar121 zr121) ?_
            refine zax rfl rfl (op_stwa rfl tb121 (ev1 rfl) (ev1 rfl) rfl rfl rfl rfl) (by simp only [upd, za, zaa]; exact rfl) ?_
            refine zab rfl rfl rfl (zad (.inr rfl) (ev1 rfl)) ?_
            refine zae ?_
            refine zau ?_
            refine kend0 (rs2 rfl (rv_w tb121 rfl rfl (laC_len _)) (rv_t rfl)) rfl ?_
            rw [endR_none (by rw [he, endE_drop (by omega), stepE_gap (s := (la, ah)) hq]; rfl)]
          · try simp only [decide_eq_true_eq, decide_eq_false_iff_not, beq_iff_eq, bne_iff_ne, beq_eq_false_iff_ne, bne_eq_false_iff_eq, Bool.not_eq_true', Bool.not_eq_false', Bool.and_eq_true, Bool.or_eq_true, Bool.or_eq_false_iff, ne_eq, Decidable.not_not, Int.not_lt, Int.not_le] at c3
            have hq : (l.ops[j]).id.q = (la (l.ops[j]).id.s.toNat).q + 1 := c3
            refine zak ?_
            refine dwp_draw [([], []), ([], []), ([4], []), ([], []), ([4], []), ([], []), ([4], []), ([3], [3]), ([], []), ([2], [2])] mixed (by kernel_rfl) ?_
            refine lex_r rfl rfl (zap rfl fo68_0 (ev1 rfl)) ?_
            refine lex_r rfl rfl (zap rfl fo61_1 (ev1 rfl)) ?_
            refine lex_r rfl rfl (zav rfl tb3 (ev1 rfl) rfl rfl) ?_
            refine lex_r rfl rfl (zap rfl fo68_0 (ev1 rfl)) ?_
            refine lex_r rfl rfl (op_ldmv (R := [_, _, _]) rfl tb61 (ev1 rfl) rfl rfl rfl) ?_
            refine lex_r rfl rfl (zap rfl fo68_0 (ev1 rfl)) ?_
            refine lex_r rfl rfl (op_ldmv (R := [_, _, _]) rfl tb61 (ev1 rfl) rfl rfl rfl) ?_
            refine lex_s rfl rfl (op_stwa rfl tb61 (ev1 rfl) (ev1 rfl) rfl rfl rfl rfl) rfl (by simp only [upd, za, zaa]; exact rfl) ?_
            refine lex_r rfl rfl (op_ixl rfl ar121 (ev1 rfl) (ev1 rfl) (fun _ => by omega)) ?_
            refine lex_s rfl rfl (op_st (C := idc (l.ops[j]).id) rfl tb61 (ev1 rfl) (ev1 rfl) rfl rfl rfl rfl (by simp only [laC_len]; show _ + 3 ≤ _; omega) (laC_set (j := (l.ops[j]).id.s.toNat) (by omega) (by omega))) rfl (by simp only [upd, za, zaa]; exact rfl) ?_
            refine lex_nil ?_
            refine zac ?_
            refine zab rfl rfl rfl (op_add' rfl (ev1 rfl) (ev1 rfl) (fun _ => IntWalk.i64_in _ (by omega))) ?_
            refine zab rfl rfl rfl (zad (.inl rfl) (ev1 rfl)) ?_
            refine zae ?_
            refine ⟨(j + 1, upV la (l.ops[j]).id.s.toNat (l.ops[j]).id, (l.ops[j]).id), [0, 1, 2, 3], ⟨by omega, by rw [he, endE_drop (by omega), stepE_yes (s := (la, ah)) hst hq]; rfl, laOk_up hok hid⟩, by simp only []; omega, rfl, ⟨rfl, rfl, rfl, rfl, rfl, rfl, rfl, trivial⟩, ⟨rfl, rfl, rfl, rfl, trivial⟩⟩
      · try simp only [decide_eq_true_eq, decide_eq_false_iff_not, beq_iff_eq, bne_iff_ne, beq_eq_false_iff_ne, bne_eq_false_iff_eq, Bool.not_eq_true', Bool.not_eq_false', Bool.and_eq_true, Bool.or_eq_true, Bool.or_eq_false_iff, ne_eq, Decidable.not_not, Int.not_lt, Int.not_le] at c3
        refine dwp_exit ?_
        refine zaf ?_
        refine zac ?_
        refine zab rfl rfl rfl (zas rfl tb121 (ev1 rfl) rfl (laC_len _)) ?_
        refine zax rfl rfl (op_stwa rfl tb121 (ev1 rfl) (ev1 rfl) rfl rfl rfl rfl) (by simp only [upd, za, zaa]; exact rfl) ?_
        refine zab rfl rfl rfl (zad (.inr rfl) (ev1 rfl)) ?_
        refine zae ?_
        refine zau ?_
        refine kend0 (rs2 rfl (rv_w tb121 rfl rfl (laC_len _)) (rv_t rfl)) rfl ?_
        rw [endR_some (s := (la, ah)) hb (by rw [he, List.drop_of_length_le (by omega)]; rfl)]
set_option maxRecDepth 4000 in
set_option maxHeartbeats 1000000 in
theorem lCheck_d (l : LogM) : DFun Tryz.prog 70 [.agg (logD l)] [] (.val (.int .i64 (errOr (logB l) 240))) [] := by
  refine zba (N := 11) 0 (by kernel_rfl) Tryz.func70 rfl rfl rfl (by simp only [fr0, Nat.zero_add, Nat.reduceAdd]; exact rfl) rfl fun s0 hs0 => ?_
  refine zaf ?_
  refine zaj 1 (by simp only [holes, List.cons_append, List.nil_append]; exact rfl) ?_
  refine zac ?_
  refine zam rfl rfl rfl (op_boxam 0 rfl (ev1 rfl) rfl) (by simp only [upd, za, zaa]; exact rfl) ?_
  refine zab rfl rfl rfl (zad (.inr rfl) (ev1 rfl)) ?_
  refine zae ?_
  refine zaf ?_
  refine zaj 1 (by simp only [holes, List.cons_append, List.nil_append]; exact rfl) ?_
  refine zac ?_
  refine zab rfl rfl rfl (op_ldmw rfl tb58 (ev1 rfl) rfl rfl) ?_
  refine zab rfl rfl rfl (zah [] [] [] rfl (ev1 rfl) (ec (ev1 rfl) en) rfl rfl (ends_d l) rfl rfl rfl rfl rfl rfl) ?_
  refine zab rfl rfl rfl (zad (.inl rfl) (ev1 rfl)) ?_
  refine zab rfl rfl rfl (op_ext rfl (ev1 rfl) rfl) ?_
  refine zab rfl rfl rfl (op_ext rfl (ev1 rfl) rfl) ?_
  refine zam rfl rfl rfl (zaq 1 rfl zr121 rfl) (by simp only [upd, za, zaa]; exact rfl) ?_
  refine zax rfl rfl (op_stwa rfl tb121 (ev1 rfl) (ev1 rfl) rfl rfl rfl rfl) (by simp only [upd, za, zaa]; exact rfl) ?_
  refine zab rfl rfl rfl (zad (.inr rfl) (ev1 rfl)) ?_
  refine zae ?_
  refine zaf ?_
  refine zac ?_
  refine zab rfl rfl rfl (zad (.inl rfl) (ev1 rfl)) ?_
  refine zab rfl rfl rfl (zad (.inr rfl) (ev1 rfl)) ?_
  refine zae ?_
  refine zau ?_
  refine kend0 (rs1 rfl (rv_t rfl)) rfl ?_
  rw [endR_errno]
end Go.Proofs.YtnjnhghafjlmbaaGreat
namespace Go.Proofs.YtnjnhghafjlmbaaGreat
set_option linter.unusedVariables false
set_option linter.unusedSimpArgs false
open Go.RowKit
theorem fl68 : fdL Tryz.prog 68 = some [(0, 3), (3, 1), (4, 1), (5, 1), (6, 1), (7, 1), (8, 1), (9, 4), (13, 3), (16, 3)] := by kernel_rfl
def zOp : OpM := ⟨zI3, 0, 0, 0, 0, 0, 0, zC4, 0, 0, [], zI3⟩
def tmL (l : LogM) (n : Int) : Int := (l.ops.getD (l.ops.length - 1 - n.toNat) zOp).id.t
def proF (f : FrM) (l : LogM) (n : Int) : FrM × Int :=
  if frB f = false then (zF, 280) else if logB l = false then (zF, 240) else if n < 0 then (zF, 2) else if f.pr ≠ 0 then (zF, 5) else if ¬ n < (l.ops.length : Int) then (zF, 4) else if ¬ (f.fo : Int) < tmL l n then (zF, 4) else ({ f with pr := (tmL l n).toNat }, 0)
theorem tmL_at {l : LogM} {n : Int} {j : Nat} (hj : j < l.ops.length) (e : l.ops.length - 1 - n.toNat = j) : (l.ops[j]).id.t = tmL l n := by
  unfold tmL
  rw [e, List.getD_eq_getElem?_getD, List.getElem?_eq_getElem hj]
  rfl
theorem frC_wprx (f : FrM) {t : Int} (h : 0 ≤ t) : (frC f).set 10 (.int .u64 t) = frC { f with pr := t.toNat } := by
  conv => lhs; rw [show t = ((t.toNat : Nat) : Int) by omega]
  rfl
set_option maxRecDepth 4000 in
set_option maxHeartbeats 1000000 in
theorem pro_no (f : FrM) (l : LogM) (n : Int) (hf : frB f = false) : DFun Tryz.prog 32 [.val (.agg (frC f).toArray), .agg (logD l), .val (.int .i64 n)] [] (.tup [.val (.agg (frC zF).toArray), .val (.int .i64 280)]) [] := by
  refine dcalls_body (N := 62) 0 (by kernel_rfl) Tryz.func32 rfl rfl rfl (by simp only [fr0, Nat.zero_add, Nat.reduceAdd]; exact rfl) rfl fun s0 hs0 => ?_
  refine dbody_seq rfl hs0 ?_
  refine zaj 4 (by simp only [holes, List.cons_append, List.nil_append]; exact rfl) ?_
  refine zac ?_
  refine zam rfl rfl rfl (op_boxa 0 rfl (ev1 rfl) rfl) (by simp only [upd, za, zaa]; exact rfl) ?_
  refine zam rfl rfl rfl (op_boxam 1 rfl (ev1 rfl) rfl) (by simp only [upd, za, zaa]; exact rfl) ?_
  refine zam rfl rfl rfl (zaq 2 rfl zr29 rfl) (by simp only [upd, za, zaa]; exact rfl) ?_
  refine zam rfl rfl rfl (zaq 3 rfl zr34 rfl) (by simp only [upd, za, zaa]; exact rfl) ?_
  refine zae ?_
  refine dbody_defer (l0 := [_]) rfl rfl rfl rfl rfl hs0 ?_
  refine zab rfl rfl rfl (op_mkf rfl en (ec (ev1 rfl) en)) ?_
  refine zae ⟨_, _, _, 4, ev1 rfl, Nat.le_trans hs0 (by decide), rfl, ?_⟩
  have hs1 : s0.M.length ≤ 4 := Nat.le_trans hs0 (by decide)
  refine dbody_end rfl hs0 ?_
  refine zaf ?_
  refine zac ?_
  refine zab rfl rfl rfl (zas rfl tb29 (ev1 rfl) rfl (zao _)) ?_
  refine walk_p rfl (dop_callP [] [] [] rfl (ev1 rfl) (ec (ev1 rfl) en) rfl rfl (chOf_no f hf) rfl rfl rfl rfl rfl rfl) rfl ?_
  refine kdef (dturn_caught [3] [] rfl rfl rfl (propose1_caught _ _) rfl rfl rfl rfl rfl) ?_
  refine kend0 (rs2 rfl (rv_w tb29 rfl rfl (zao _)) (rv_1 tb34 rfl rfl rfl)) rfl ?_
  rfl
set_option maxRecDepth 4000 in
set_option maxHeartbeats 1000000 in
theorem pro_log (f : FrM) (l : LogM) (n : Int) (hf : frB f = true) (hl : logB l = false) : DFun Tryz.prog 32 [.val (.agg (frC f).toArray), .agg (logD l), .val (.int .i64 n)] [] (.tup [.val (.agg (frC zF).toArray), .val (.int .i64 240)]) [] := by
  refine dcalls_body (N := 62) 0 (by kernel_rfl) Tryz.func32 rfl rfl rfl (by simp only [fr0, Nat.zero_add, Nat.reduceAdd]; exact rfl) rfl fun s0 hs0 => ?_
  refine dbody_seq rfl hs0 ?_
  refine zaj 4 (by simp only [holes, List.cons_append, List.nil_append]; exact rfl) ?_
  refine zac ?_
  refine zam rfl rfl rfl (op_boxa 0 rfl (ev1 rfl) rfl) (by simp only [upd, za, zaa]; exact rfl) ?_
  refine zam rfl rfl rfl (op_boxam 1 rfl (ev1 rfl) rfl) (by simp only [upd, za, zaa]; exact rfl) ?_
  refine zam rfl rfl rfl (zaq 2 rfl zr29 rfl) (by simp only [upd, za, zaa]; exact rfl) ?_
  refine zam rfl rfl rfl (zaq 3 rfl zr34 rfl) (by simp only [upd, za, zaa]; exact rfl) ?_
  refine zae ?_
  refine dbody_defer (l0 := [_]) rfl rfl rfl rfl rfl hs0 ?_
  refine zab rfl rfl rfl (op_mkf rfl en (ec (ev1 rfl) en)) ?_
  refine zae ⟨_, _, _, 4, ev1 rfl, Nat.le_trans hs0 (by decide), rfl, ?_⟩
  have hs1 : s0.M.length ≤ 4 := Nat.le_trans hs0 (by decide)
  refine dbody_end rfl hs0 ?_
  refine zaf ?_
  refine zaj 1 (by simp only [holes, List.cons_append, List.nil_append]; exact rfl) ?_
  refine zac ?_
  refine zab rfl rfl rfl (zas rfl tb29 (ev1 rfl) rfl (zao _)) ?_
  refine zam rfl rfl rfl (zah [] [] [4] rfl (ev1 rfl) (ec (ev1 rfl) en) rfl rfl (chOf_ok f hf) rfl rfl rfl rfl rfl rfl) (by simp only [upd, za, zaa]; exact rfl) ?_
  refine zab rfl rfl rfl (zad (.inr rfl) (ev1 rfl)) ?_
  refine zae ?_
  refine zaf ?_
  refine zac ?_
  refine zab rfl rfl rfl (op_ldmw rfl tb58 (ev1 rfl) rfl rfl) ?_
  refine zab rfl rfl rfl (zah [] [] [] rfl (ev1 rfl) (ec (ev1 rfl) en) rfl rfl (lCheck_d l) rfl rfl rfl rfl rfl rfl) ?_
  refine zab rfl rfl rfl (zb rfl (ev1 rfl) (ev1 rfl)) ?_
  refine walk_p rfl (dop_callP [] [] [] rfl (ev1 rfl) (ec (ev1 rfl) (ec (ev1 rfl) en)) rfl rfl (need_no _ _ (by rw [errz _ (by decide), hl])) rfl rfl rfl rfl rfl rfl) rfl ?_
  refine kdef (dturn_caught [3] [] rfl rfl rfl (propose1_caught _ _) rfl rfl rfl rfl rfl) ?_
  refine kend0 (rs2 rfl (rv_w tb29 rfl rfl (zao _)) (rv_1 tb34 rfl rfl rfl)) rfl ?_
  rfl
set_option maxRecDepth 4000 in
set_option maxHeartbeats 1000000 in
theorem pro_arg (f : FrM) (l : LogM) (n : Int) (hf : frB f = true) (hl : logB l = true) (hn : n < 0) : DFun Tryz.prog 32 [.val (.agg (frC f).toArray), .agg (logD l), .val (.int .i64 n)] [] (.tup [.val (.agg (frC zF).toArray), .val (.int .i64 2)]) [] := by
  refine dcalls_body (N := 62) 0 (by kernel_rfl) Tryz.func32 rfl rfl rfl (by simp only [fr0, Nat.zero_add, Nat.reduceAdd]; exact rfl) rfl fun s0 hs0 => ?_
  refine dbody_seq rfl hs0 ?_
  refine zaj 4 (by simp only [holes, List.cons_append, List.nil_append]; exact rfl) ?_
  refine zac ?_
  refine zam rfl rfl rfl (op_boxa 0 rfl (ev1 rfl) rfl) (by simp only [upd, za, zaa]; exact rfl) ?_
  refine zam rfl rfl rfl (op_boxam 1 rfl (ev1 rfl) rfl) (by simp only [upd, za, zaa]; exact rfl) ?_
  refine zam rfl rfl rfl (zaq 2 rfl zr29 rfl) (by simp only [upd, za, zaa]; exact rfl) ?_
  refine zam rfl rfl rfl (zaq 3 rfl zr34 rfl) (by simp only [upd, za, zaa]; exact rfl) ?_
  refine zae ?_
  refine dbody_defer (l0 := [_]) rfl rfl rfl rfl rfl hs0 ?_
  refine zab rfl rfl rfl (op_mkf rfl en (ec (ev1 rfl) en)) ?_
  refine zae ⟨_, _, _, 4, ev1 rfl, Nat.le_trans hs0 (by decide), rfl, ?_⟩
  have hs1 : s0.M.length ≤ 4 := Nat.le_trans hs0 (by decide)
  refine dbody_end rfl hs0 ?_
  refine zaf ?_
  refine zaj 1 (by simp only [holes, List.cons_append, List.nil_append]; exact rfl) ?_
  refine zac ?_
  refine zab rfl rfl rfl (zas rfl tb29 (ev1 rfl) rfl (zao _)) ?_
  refine zam rfl rfl rfl (zah [] [] [4] rfl (ev1 rfl) (ec (ev1 rfl) en) rfl rfl (chOf_ok f hf) rfl rfl rfl rfl rfl rfl) (by simp only [upd, za, zaa]; exact rfl) ?_
  refine zab rfl rfl rfl (zad (.inr rfl) (ev1 rfl)) ?_
  refine zae ?_
  refine zaf ?_
  refine zac ?_
  refine zab rfl rfl rfl (op_ldmw rfl tb58 (ev1 rfl) rfl rfl) ?_
  refine zab rfl rfl rfl (zah [] [] [] rfl (ev1 rfl) (ec (ev1 rfl) en) rfl rfl (lCheck_d l) rfl rfl rfl rfl rfl rfl) ?_
  refine zab rfl rfl rfl (zb rfl (ev1 rfl) (ev1 rfl)) ?_
  refine zab rfl rfl rfl (zah [] [] [] rfl (ev1 rfl) (ec (ev1 rfl) (ec (ev1 rfl) en)) rfl rfl (need_ok _ _ (by rw [errz _ (by decide), hl])) rfl rfl rfl rfl rfl rfl) ?_
  refine zae ?_
  refine zaf ?_
  refine zac ?_
  refine zab rfl rfl rfl (zad (.inl rfl) (ev1 rfl)) ?_
  refine zab rfl rfl rfl (op_geq rfl (ev1 rfl) (ev1 rfl)) ?_
  refine walk_p rfl (dop_callP [] [] [] rfl (ev1 rfl) (ec (ev1 rfl) (ec (ev1 rfl) en)) rfl rfl (need_no _ _ (by simp; omega)) rfl rfl rfl rfl rfl rfl) rfl ?_
  refine kdef (dturn_caught [3] [] rfl rfl rfl (propose1_caught _ _) rfl rfl rfl rfl rfl) ?_
  refine kend0 (rs2 rfl (rv_w tb29 rfl rfl (zao _)) (rv_1 tb34 rfl rfl rfl)) rfl ?_
  rfl
set_option maxRecDepth 4000 in
set_option maxHeartbeats 1000000 in
theorem pro_there (f : FrM) (l : LogM) (n : Int) (hf : frB f = true) (hl : logB l = true) (hn : ¬ n < 0) (hp : f.pr ≠ 0) : DFun Tryz.prog 32 [.val (.agg (frC f).toArray), .agg (logD l), .val (.int .i64 n)] [] (.tup [.val (.agg (frC zF).toArray), .val (.int .i64 5)]) [] := by
  refine dcalls_body (N := 62) 0 (by kernel_rfl) Tryz.func32 rfl rfl rfl (by simp only [fr0, Nat.zero_add, Nat.reduceAdd]; exact rfl) rfl fun s0 hs0 => ?_
  refine dbody_seq rfl hs0 ?_
  refine zaj 4 (by simp only [holes, List.cons_append, List.nil_append]; exact rfl) ?_
  refine zac ?_
  refine zam rfl rfl rfl (op_boxa 0 rfl (ev1 rfl) rfl) (by simp only [upd, za, zaa]; exact rfl) ?_
  refine zam rfl rfl rfl (op_boxam 1 rfl (ev1 rfl) rfl) (by simp only [upd, za, zaa]; exact rfl) ?_
  refine zam rfl rfl rfl (zaq 2 rfl zr29 rfl) (by simp only [upd, za, zaa]; exact rfl) ?_
  refine zam rfl rfl rfl (zaq 3 rfl zr34 rfl) (by simp only [upd, za, zaa]; exact rfl) ?_
  refine zae ?_
  refine dbody_defer (l0 := [_]) rfl rfl rfl rfl rfl hs0 ?_
  refine zab rfl rfl rfl (op_mkf rfl en (ec (ev1 rfl) en)) ?_
  refine zae ⟨_, _, _, 4, ev1 rfl, Nat.le_trans hs0 (by decide), rfl, ?_⟩
  have hs1 : s0.M.length ≤ 4 := Nat.le_trans hs0 (by decide)
  refine dbody_end rfl hs0 ?_
  refine zaf ?_
  refine zaj 1 (by simp only [holes, List.cons_append, List.nil_append]; exact rfl) ?_
  refine zac ?_
  refine zab rfl rfl rfl (zas rfl tb29 (ev1 rfl) rfl (zao _)) ?_
  refine zam rfl rfl rfl (zah [] [] [4] rfl (ev1 rfl) (ec (ev1 rfl) en) rfl rfl (chOf_ok f hf) rfl rfl rfl rfl rfl rfl) (by simp only [upd, za, zaa]; exact rfl) ?_
  refine zab rfl rfl rfl (zad (.inr rfl) (ev1 rfl)) ?_
  refine zae ?_
  refine zaf ?_
  refine zac ?_
  refine zab rfl rfl rfl (op_ldmw rfl tb58 (ev1 rfl) rfl rfl) ?_
  refine zab rfl rfl rfl (zah [] [] [] rfl (ev1 rfl) (ec (ev1 rfl) en) rfl rfl (lCheck_d l) rfl rfl rfl rfl rfl rfl) ?_
  refine zab rfl rfl rfl (zb rfl (ev1 rfl) (ev1 rfl)) ?_
  refine zab rfl rfl rfl (zah [] [] [] rfl (ev1 rfl) (ec (ev1 rfl) (ec (ev1 rfl) en)) rfl rfl (need_ok _ _ (by rw [errz _ (by decide), hl])) rfl rfl rfl rfl rfl rfl) ?_
  refine zae ?_
  refine zaf ?_
  refine zac ?_
  refine zab rfl rfl rfl (zad (.inl rfl) (ev1 rfl)) ?_
  refine zab rfl rfl rfl (op_geq rfl (ev1 rfl) (ev1 rfl)) ?_
  refine zab rfl rfl rfl (zah [] [] [] rfl (ev1 rfl) (ec (ev1 rfl) (ec (ev1 rfl) en)) rfl rfl (need_ok _ _ (by simp; omega)) rfl rfl rfl rfl rfl rfl) ?_
  refine zae ?_
  refine zaf ?_
  refine zac ?_
  refine zab rfl rfl rfl (zad (.inl rfl) (ev1 rfl)) ?_
  refine zab rfl rfl rfl (op_nc rfl (ev1 rfl) (fun s v h => by cases h; exact ⟨_, rfl⟩)) ?_
  refine zab rfl rfl rfl (zap rfl fo101_0 (ev1 rfl)) ?_
  refine zab rfl rfl rfl (zap rfl fo29_2 (ev1 rfl)) ?_
  refine zab rfl rfl rfl (op_ldo rfl tb22 (ev1 rfl) rfl (frC_pr _)) ?_
  refine zab rfl rfl rfl (zb rfl (ev1 rfl) (ev1 rfl)) ?_
  refine walk_p rfl (dop_callP [] [] [] rfl (ev1 rfl) (ec (ev1 rfl) (ec (ev1 rfl) en)) rfl rfl (need_no _ _ (by simp; omega)) rfl rfl rfl rfl rfl rfl) rfl ?_
  refine kdef (dturn_caught [3] [] rfl rfl rfl (propose1_caught _ _) rfl rfl rfl rfl rfl) ?_
  refine kend0 (rs2 rfl (rv_w tb29 rfl rfl (zao _)) (rv_1 tb34 rfl rfl rfl)) rfl ?_
  rfl
set_option maxRecDepth 4000 in
set_option maxHeartbeats 1000000 in
theorem pro_few (f : FrM) (l : LogM) (n : Int) (hf : frB f = true) (hl : logB l = true) (hn : ¬ n < 0) (hp : f.pr = 0) (hm : ¬ n < (l.ops.length : Int)) : DFun Tryz.prog 32 [.val (.agg (frC f).toArray), .agg (logD l), .val (.int .i64 n)] [] (.tup [.val (.agg (frC zF).toArray), .val (.int .i64 4)]) [] := by
  refine dcalls_body (N := 62) 0 (by kernel_rfl) Tryz.func32 rfl rfl rfl (by simp only [fr0, Nat.zero_add, Nat.reduceAdd]; exact rfl) rfl fun s0 hs0 => ?_
  refine dbody_seq rfl hs0 ?_
  refine zaj 4 (by simp only [holes, List.cons_append, List.nil_append]; exact rfl) ?_
  refine zac ?_
  refine zam rfl rfl rfl (op_boxa 0 rfl (ev1 rfl) rfl) (by simp only [upd, za, zaa]; exact rfl) ?_
  refine zam rfl rfl rfl (op_boxam 1 rfl (ev1 rfl) rfl) (by simp only [upd, za, zaa]; exact rfl) ?_
  refine zam rfl rfl rfl (zaq 2 rfl zr29 rfl) (by simp only [upd, za, zaa]; exact rfl) ?_
  refine zam rfl rfl rfl (zaq 3 rfl zr34 rfl) (by simp only [upd, za, zaa]; exact rfl) ?_
  refine zae ?_
  refine dbody_defer (l0 := [_]) rfl rfl rfl rfl rfl hs0 ?_
  refine zab rfl rfl rfl (op_mkf rfl en (ec (ev1 rfl) en)) ?_
  refine zae ⟨_, _, _, 4, ev1 rfl, Nat.le_trans hs0 (by decide), rfl, ?_⟩
  have hs1 : s0.M.length ≤ 4 := Nat.le_trans hs0 (by decide)
  refine dbody_end rfl hs0 ?_
  refine zaf ?_
  refine zaj 1 (by simp only [holes, List.cons_append, List.nil_append]; exact rfl) ?_
  refine zac ?_
  refine zab rfl rfl rfl (zas rfl tb29 (ev1 rfl) rfl (zao _)) ?_
  refine zam rfl rfl rfl (zah [] [] [4] rfl (ev1 rfl) (ec (ev1 rfl) en) rfl rfl (chOf_ok f hf) rfl rfl rfl rfl rfl rfl) (by simp only [upd, za, zaa]; exact rfl) ?_
  refine zab rfl rfl rfl (zad (.inr rfl) (ev1 rfl)) ?_
  refine zae ?_
  refine zaf ?_
  refine zac ?_
  refine zab rfl rfl rfl (op_ldmw rfl tb58 (ev1 rfl) rfl rfl) ?_
  refine zab rfl rfl rfl (zah [] [] [] rfl (ev1 rfl) (ec (ev1 rfl) en) rfl rfl (lCheck_d l) rfl rfl rfl rfl rfl rfl) ?_
  refine zab rfl rfl rfl (zb rfl (ev1 rfl) (ev1 rfl)) ?_
  refine zab rfl rfl rfl (zah [] [] [] rfl (ev1 rfl) (ec (ev1 rfl) (ec (ev1 rfl) en)) rfl rfl (need_ok _ _ (by rw [errz _ (by decide), hl])) rfl rfl rfl rfl rfl rfl) ?_
  refine zae ?_
  refine zaf ?_
  refine zac ?_
  refine zab rfl rfl rfl (zad (.inl rfl) (ev1 rfl)) ?_
  refine zab rfl rfl rfl (op_geq rfl (ev1 rfl) (ev1 rfl)) ?_
  refine zab rfl rfl rfl (zah [] [] [] rfl (ev1 rfl) (ec (ev1 rfl) (ec (ev1 rfl) en)) rfl rfl (need_ok _ _ (by simp; omega)) rfl rfl rfl rfl rfl rfl) ?_
  refine zae ?_
  refine zaf ?_
  refine zac ?_
  refine zab rfl rfl rfl (zad (.inl rfl) (ev1 rfl)) ?_
  refine zab rfl rfl rfl (op_nc rfl (ev1 rfl) (fun s v h => by cases h; exact ⟨_, rfl⟩)) ?_
  refine zab rfl rfl rfl (zap rfl fo101_0 (ev1 rfl)) ?_
  refine zab rfl rfl rfl (zap rfl fo29_2 (ev1 rfl)) ?_
  refine zab rfl rfl rfl (op_ldo rfl tb22 (ev1 rfl) rfl (frC_pr _)) ?_
  refine zab rfl rfl rfl (zb rfl (ev1 rfl) (ev1 rfl)) ?_
  refine zab rfl rfl rfl (zah [] [] [] rfl (ev1 rfl) (ec (ev1 rfl) (ec (ev1 rfl) en)) rfl rfl (need_ok _ _ (by simp; omega)) rfl rfl rfl rfl rfl rfl) ?_
  refine zae ?_
  refine zaf ?_
  refine zac ?_
  refine zab rfl rfl rfl (zad (.inl rfl) (ev1 rfl)) ?_
  refine zab rfl rfl rfl (zap rfl fo58_2 (ev1 rfl)) ?_
  refine zab rfl rfl rfl (zav rfl tb56 (ev1 rfl) rfl rfl) ?_
  refine zab rfl rfl rfl (op_lenm rfl sl56 (ev1 rfl)) ?_
  refine zab rfl rfl rfl (op_lss rfl (ev1 rfl) (ev1 rfl)) ?_
  refine walk_p rfl (dop_callP [] [] [] rfl (ev1 rfl) (ec (ev1 rfl) (ec (ev1 rfl) en)) rfl rfl (need_no _ _ (by simp; omega)) rfl rfl rfl rfl rfl rfl) rfl ?_
  refine kdef (dturn_caught [3] [] rfl rfl rfl (propose1_caught _ _) rfl rfl rfl rfl rfl) ?_
  refine kend0 (rs2 rfl (rv_w tb29 rfl rfl (zao _)) (rv_1 tb34 rfl rfl rfl)) rfl ?_
  rfl
set_option maxRecDepth 4000 in
set_option maxHeartbeats 1000000 in
theorem pro_low (f : FrM) (l : LogM) (n : Int) (hf : frB f = true) (hl : logB l = true) (hn : ¬ n < 0) (hp : f.pr = 0) (hm : n < (l.ops.length : Int)) (ht : ¬ (f.fo : Int) < tmL l n) : DFun Tryz.prog 32 [.val (.agg (frC f).toArray), .agg (logD l), .val (.int .i64 n)] [] (.tup [.val (.agg (frC zF).toArray), .val (.int .i64 4)]) [] := by
  refine dcalls_body (N := 62) 0 (by kernel_rfl) Tryz.func32 rfl rfl rfl (by simp only [fr0, Nat.zero_add, Nat.reduceAdd]; exact rfl) rfl fun s0 hs0 => ?_
  refine dbody_seq rfl hs0 ?_
  refine zaj 4 (by simp only [holes, List.cons_append, List.nil_append]; exact rfl) ?_
  refine zac ?_
  refine zam rfl rfl rfl (op_boxa 0 rfl (ev1 rfl) rfl) (by simp only [upd, za, zaa]; exact rfl) ?_
  refine zam rfl rfl rfl (op_boxam 1 rfl (ev1 rfl) rfl) (by simp only [upd, za, zaa]; exact rfl) ?_
  refine zam rfl rfl rfl (zaq 2 rfl zr29 rfl) (by simp only [upd, za, zaa]; exact rfl) ?_
  refine zam rfl rfl rfl (zaq 3 rfl zr34 rfl) (by simp only [upd, za, zaa]; exact rfl) ?_
  refine zae ?_
  refine dbody_defer (l0 := [_]) rfl rfl rfl rfl rfl hs0 ?_
  refine zab rfl rfl rfl (op_mkf rfl en (ec (ev1 rfl) en)) ?_
  refine zae ⟨_, _, _, 4, ev1 rfl, Nat.le_trans hs0 (by decide), rfl, ?_⟩
  have hs1 : s0.M.length ≤ 4 := Nat.le_trans hs0 (by decide)
  refine dbody_end rfl hs0 ?_
  refine zaf ?_
  refine zaj 1 (by simp only [holes, List.cons_append, List.nil_append]; exact rfl) ?_
  refine zac ?_
  refine zab rfl rfl rfl (zas rfl tb29 (ev1 rfl) rfl (zao _)) ?_
  refine zam rfl rfl rfl (zah [] [] [4] rfl (ev1 rfl) (ec (ev1 rfl) en) rfl rfl (chOf_ok f hf) rfl rfl rfl rfl rfl rfl) (by simp only [upd, za, zaa]; exact rfl) ?_
  refine zab rfl rfl rfl (zad (.inr rfl) (ev1 rfl)) ?_
  refine zae ?_
  refine zaf ?_
  refine zac ?_
  refine zab rfl rfl rfl (op_ldmw rfl tb58 (ev1 rfl) rfl rfl) ?_
  refine zab rfl rfl rfl (zah [] [] [] rfl (ev1 rfl) (ec (ev1 rfl) en) rfl rfl (lCheck_d l) rfl rfl rfl rfl rfl rfl) ?_
  refine zab rfl rfl rfl (zb rfl (ev1 rfl) (ev1 rfl)) ?_
  refine zab rfl rfl rfl (zah [] [] [] rfl (ev1 rfl) (ec (ev1 rfl) (ec (ev1 rfl) en)) rfl rfl (need_ok _ _ (by rw [errz _ (by decide), hl])) rfl rfl rfl rfl rfl rfl) ?_
  refine zae ?_
  refine zaf ?_
  refine zac ?_
  refine zab rfl rfl rfl (zad (.inl rfl) (ev1 rfl)) ?_
  refine zab rfl rfl rfl (op_geq rfl (ev1 rfl) (ev1 rfl)) ?_
  refine zab rfl rfl rfl (zah [] [] [] rfl (ev1 rfl) (ec (ev1 rfl) (ec (ev1 rfl) en)) rfl rfl (need_ok _ _ (by simp; omega)) rfl rfl rfl rfl rfl rfl) ?_
  refine zae ?_
  refine zaf ?_
  refine zac ?_
  refine zab rfl rfl rfl (zad (.inl rfl) (ev1 rfl)) ?_
  refine zab rfl rfl rfl (op_nc rfl (ev1 rfl) (fun s v h => by cases h; exact ⟨_, rfl⟩)) ?_
  refine zab rfl rfl rfl (zap rfl fo101_0 (ev1 rfl)) ?_
  refine zab rfl rfl rfl (zap rfl fo29_2 (ev1 rfl)) ?_
  refine zab rfl rfl rfl (op_ldo rfl tb22 (ev1 rfl) rfl (frC_pr _)) ?_
  refine zab rfl rfl rfl (zb rfl (ev1 rfl) (ev1 rfl)) ?_
  refine zab rfl rfl rfl (zah [] [] [] rfl (ev1 rfl) (ec (ev1 rfl) (ec (ev1 rfl) en)) rfl rfl (need_ok _ _ (by simp; omega)) rfl rfl rfl rfl rfl rfl) ?_
  refine zae ?_
  refine zaf ?_
  refine zac ?_
  refine zab rfl rfl rfl (zad (.inl rfl) (ev1 rfl)) ?_
  refine zab rfl rfl rfl (zap rfl fo58_2 (ev1 rfl)) ?_
  refine zab rfl rfl rfl (zav rfl tb56 (ev1 rfl) rfl rfl) ?_
  refine zab rfl rfl rfl (op_lenm rfl sl56 (ev1 rfl)) ?_
  refine zab rfl rfl rfl (op_lss rfl (ev1 rfl) (ev1 rfl)) ?_
  refine zab rfl rfl rfl (zah [] [] [] rfl (ev1 rfl) (ec (ev1 rfl) (ec (ev1 rfl) en)) rfl rfl (need_ok _ _ (by simp; omega)) rfl rfl rfl rfl rfl rfl) ?_
  refine zae ?_
  refine zaf ?_
  refine dwp_lenm (t := 29) rfl fun hl29 hL29 => ?_
  refine zac ?_
  refine zab rfl rfl rfl (zap rfl fo58_2 (ev1 rfl)) ?_
  refine zab rfl rfl rfl (zav rfl tb56 (ev1 rfl) rfl rfl) ?_
  refine zab rfl rfl rfl (zap rfl fo58_2 (ev1 rfl)) ?_
  refine zab rfl rfl rfl (zav rfl tb56 (ev1 rfl) rfl rfl) ?_
  refine zab rfl rfl rfl (op_lenm rfl sl56 (ev1 rfl)) ?_
  refine zab rfl rfl rfl (op_sub' rfl (ev1 rfl) (ev1 rfl) (fun _ => IntWalk.i64_in _ (by omega))) ?_
  refine zab rfl rfl rfl (zad (.inl rfl) (ev1 rfl)) ?_
  refine zab rfl rfl rfl (op_sub' rfl (ev1 rfl) (ev1 rfl) (fun _ => IntWalk.i64_in _ (by omega))) ?_
  refine zab rfl rfl rfl (op_ixmr (l.ops.length - 1 - n.toNat) (by decide) rfl sl56 (ev1 rfl) (ev1 rfl) (fun _ => by omega) (by omega) (fun _ => rfl)) ?_
  refine zab rfl rfl rfl (op_fadm rfl fo68_0 (ev1 rfl)) ?_
  refine zab rfl rfl rfl (op_fadm rfl fo61_0 (ev1 rfl)) ?_
  refine zab rfl rfl rfl ((op_lddm rfl tb22 (ev1 rfl) rfl).cast (d' := .val (.int .u64 (tmL l n))) (by rw [tmL_at (n := n) (j := l.ops.length - 1 - n.toNat) (by omega) rfl])) ?_
  refine zab rfl rfl rfl (zad (.inr rfl) (ev1 rfl)) ?_
  refine zae ?_
  refine zaf ?_
  refine zac ?_
  refine zab rfl rfl rfl (zad (.inl rfl) (ev1 rfl)) ?_
  refine zab rfl rfl rfl (zad (.inl rfl) (ev1 rfl)) ?_
  refine zab rfl rfl rfl (op_nc rfl (ev1 rfl) (fun s v h => by cases h; exact ⟨_, rfl⟩)) ?_
  refine zab rfl rfl rfl (zap rfl fo101_0 (ev1 rfl)) ?_
  refine zab rfl rfl rfl (zap rfl fo29_0 (ev1 rfl)) ?_
  refine zab rfl rfl rfl (op_ldo rfl tb22 (ev1 rfl) rfl rfl) ?_
  refine zab rfl rfl rfl (op_gtr rfl (ev1 rfl) (ev1 rfl)) ?_
  refine walk_p rfl (dop_callP [] [] [] rfl (ev1 rfl) (ec (ev1 rfl) (ec (ev1 rfl) en)) rfl rfl (need_no _ _ (by simp; omega)) rfl rfl rfl rfl rfl rfl) rfl ?_
  refine kdef (dturn_caught [3] [] rfl rfl rfl (propose1_caught _ _) rfl rfl rfl rfl rfl) ?_
  refine kend0 (rs2 rfl (rv_w tb29 rfl rfl (zao _)) (rv_1 tb34 rfl rfl rfl)) rfl ?_
  rfl
set_option maxRecDepth 4000 in
set_option maxHeartbeats 1000000 in
theorem pro_ok (f : FrM) (l : LogM) (n : Int) (hf : frB f = true) (hl : logB l = true) (hn : ¬ n < 0) (hp : f.pr = 0) (hm : n < (l.ops.length : Int)) (ht : (f.fo : Int) < tmL l n) : DFun Tryz.prog 32 [.val (.agg (frC f).toArray), .agg (logD l), .val (.int .i64 n)] [] (.tup [.val (.agg (frC { f with pr := (tmL l n).toNat }).toArray), .val (.int .i64 0)]) [] := by
  refine dcalls_body (N := 62) 0 (by kernel_rfl) Tryz.func32 rfl rfl rfl (by simp only [fr0, Nat.zero_add, Nat.reduceAdd]; exact rfl) rfl fun s0 hs0 => ?_
  refine dbody_seq rfl hs0 ?_
  refine zaj 4 (by simp only [holes, List.cons_append, List.nil_append]; exact rfl) ?_
  refine zac ?_
  refine zam rfl rfl rfl (op_boxa 0 rfl (ev1 rfl) rfl) (by simp only [upd, za, zaa]; exact rfl) ?_
  refine zam rfl rfl rfl (op_boxam 1 rfl (ev1 rfl) rfl) (by simp only [upd, za, zaa]; exact rfl) ?_
  refine zam rfl rfl rfl (zaq 2 rfl zr29 rfl) (by simp only [upd, za, zaa]; exact rfl) ?_
  refine zam rfl rfl rfl (zaq 3 rfl zr34 rfl) (by simp only [upd, za, zaa]; exact rfl) ?_
  refine zae ?_
  refine dbody_defer (l0 := [_]) rfl rfl rfl rfl rfl hs0 ?_
  refine zab rfl rfl rfl (op_mkf rfl en (ec (ev1 rfl) en)) ?_
  refine zae ⟨_, _, _, 4, ev1 rfl, Nat.le_trans hs0 (by decide), rfl, ?_⟩
  have hs1 : s0.M.length ≤ 4 := Nat.le_trans hs0 (by decide)
  refine dbody_end rfl hs0 ?_
  refine zaf ?_
  refine zaj 1 (by simp only [holes, List.cons_append, List.nil_append]; exact rfl) ?_
  refine zac ?_
  refine zab rfl rfl rfl (zas rfl tb29 (ev1 rfl) rfl (zao _)) ?_
  refine zam rfl rfl rfl (zah [] [] [4] rfl (ev1 rfl) (ec (ev1 rfl) en) rfl rfl (chOf_ok f hf) rfl rfl rfl rfl rfl rfl) (by simp only [upd, za, zaa]; exact rfl) ?_
  refine zab rfl rfl rfl (zad (.inr rfl) (ev1 rfl)) ?_
  refine zae ?_
  refine zaf ?_
  refine zac ?_
  refine zab rfl rfl rfl (op_ldmw rfl tb58 (ev1 rfl) rfl rfl) ?_
  refine zab rfl rfl rfl (zah [] [] [] rfl (ev1 rfl) (ec (ev1 rfl) en) rfl rfl (lCheck_d l) rfl rfl rfl rfl rfl rfl) ?_
  refine zab rfl rfl rfl (zb rfl (ev1 rfl) (ev1 rfl)) ?_
  refine zab rfl rfl rfl (zah [] [] [] rfl (ev1 rfl) (ec (ev1 rfl) (ec (ev1 rfl) en)) rfl rfl (need_ok _ _ (by rw [errz _ (by decide), hl])) rfl rfl rfl rfl rfl rfl) ?_
  refine zae ?_
  refine zaf ?_
  refine zac ?_
  refine zab rfl rfl rfl (zad (.inl rfl) (ev1 rfl)) ?_
  refine zab rfl rfl rfl (op_geq rfl (ev1 rfl) (ev1 rfl)) ?_
  refine zab rfl rfl rfl (zah [] [] [] rfl (ev1 rfl) (ec (ev1 rfl) (ec (ev1 rfl) en)) rfl rfl (need_ok _ _ (by simp; omega)) rfl rfl rfl rfl rfl rfl) ?_
  refine zae ?_
  refine zaf ?_
  refine zac ?_
  refine zab rfl rfl rfl (zad (.inl rfl) (ev1 rfl)) ?_
  refine zab rfl rfl rfl (op_nc rfl (ev1 rfl) (fun s v h => by cases h; exact ⟨_, rfl⟩)) ?_
  refine zab rfl rfl rfl (zap rfl fo101_0 (ev1 rfl)) ?_
  refine zab rfl rfl rfl (zap rfl fo29_2 (ev1 rfl)) ?_
  refine zab rfl rfl rfl (op_ldo rfl tb22 (ev1 rfl) rfl (frC_pr _)) ?_
  refine zab rfl rfl rfl (zb rfl (ev1 rfl) (ev1 rfl)) ?_
  refine zab rfl rfl rfl (zah [] [] [] rfl (ev1 rfl) (ec (ev1 rfl) (ec (ev1 rfl) en)) rfl rfl (need_ok _ _ (by simp; omega)) rfl rfl rfl rfl rfl rfl) ?_
  refine zae ?_
  refine zaf ?_
  refine zac ?_
  refine zab rfl rfl rfl (zad (.inl rfl) (ev1 rfl)) ?_
  refine zab rfl rfl rfl (zap rfl fo58_2 (ev1 rfl)) ?_
  refine zab rfl rfl rfl (zav rfl tb56 (ev1 rfl) rfl rfl) ?_
  refine zab rfl rfl rfl (op_lenm rfl sl56 (ev1 rfl)) ?_
  refine zab rfl rfl rfl (op_lss rfl (ev1 rfl) (ev1 rfl)) ?_
  refine zab rfl rfl rfl (zah [] [] [] rfl (ev1 rfl) (ec (ev1 rfl) (ec (ev1 rfl) en)) rfl rfl (need_ok _ _ (by simp; omega)) rfl rfl rfl rfl rfl rfl) ?_
  refine zae ?_
  refine zaf ?_
  refine dwp_lenm (t := 29) rfl fun hl29 hL29 => ?_
  refine zac ?_
  refine zab rfl rfl rfl (zap rfl fo58_2 (ev1 rfl)) ?_
  refine zab rfl rfl rfl (zav rfl tb56 (ev1 rfl) rfl rfl) ?_
  refine zab rfl rfl rfl (zap rfl fo58_2 (ev1 rfl)) ?_
  refine zab rfl rfl rfl (zav rfl tb56 (ev1 rfl) rfl rfl) ?_
  refine zab rfl rfl rfl (op_lenm rfl sl56 (ev1 rfl)) ?_
  refine zab rfl rfl rfl (op_sub' rfl (ev1 rfl) (ev1 rfl) (fun _ => IntWalk.i64_in _ (by omega))) ?_
  refine zab rfl rfl rfl (zad (.inl rfl) (ev1 rfl)) ?_
  refine zab rfl rfl rfl (op_sub' rfl (ev1 rfl) (ev1 rfl) (fun _ => IntWalk.i64_in _ (by omega))) ?_
  refine zab rfl rfl rfl (op_ixmr (l.ops.length - 1 - n.toNat) (by decide) rfl sl56 (ev1 rfl) (ev1 rfl) (fun _ => by omega) (by omega) (fun _ => rfl)) ?_
  refine zab rfl rfl rfl (op_fadm rfl fo68_0 (ev1 rfl)) ?_
  refine zab rfl rfl rfl (op_fadm rfl fo61_0 (ev1 rfl)) ?_
  refine zab rfl rfl rfl ((op_lddm rfl tb22 (ev1 rfl) rfl).cast (d' := .val (.int .u64 (tmL l n))) (by rw [tmL_at (n := n) (j := l.ops.length - 1 - n.toNat) (by omega) rfl])) ?_
  refine zab rfl rfl rfl (zad (.inr rfl) (ev1 rfl)) ?_
  refine zae ?_
  refine zaf ?_
  refine zac ?_
  refine zab rfl rfl rfl (zad (.inl rfl) (ev1 rfl)) ?_
  refine zab rfl rfl rfl (zad (.inl rfl) (ev1 rfl)) ?_
  refine zab rfl rfl rfl (op_nc rfl (ev1 rfl) (fun s v h => by cases h; exact ⟨_, rfl⟩)) ?_
  refine zab rfl rfl rfl (zap rfl fo101_0 (ev1 rfl)) ?_
  refine zab rfl rfl rfl (zap rfl fo29_0 (ev1 rfl)) ?_
  refine zab rfl rfl rfl (op_ldo rfl tb22 (ev1 rfl) rfl rfl) ?_
  refine zab rfl rfl rfl (op_gtr rfl (ev1 rfl) (ev1 rfl)) ?_
  refine zab rfl rfl rfl (zah [] [] [] rfl (ev1 rfl) (ec (ev1 rfl) (ec (ev1 rfl) en)) rfl rfl (need_ok _ _ (by simp; omega)) rfl rfl rfl rfl rfl rfl) ?_
  refine zae ?_
  refine zaf ?_
  refine zac ?_
  refine zab rfl rfl rfl (zad (.inl rfl) (ev1 rfl)) ?_
  refine zab rfl rfl rfl (zad (.inl rfl) (ev1 rfl)) ?_
  refine zab rfl rfl rfl (op_nc rfl (ev1 rfl) (fun s v h => by cases h; exact ⟨_, rfl⟩)) ?_
  refine zab rfl rfl rfl (zap rfl fo101_0 (ev1 rfl)) ?_
  refine zab rfl rfl rfl (zap rfl fo29_2 (ev1 rfl)) ?_
  refine zax rfl rfl (op_st1 rfl tb22 (ev1 rfl) (ev1 rfl) rfl (by simp only [zao]; omega) (frC_wprx _ (by omega))) (by simp only [upd, za, zaa]; exact rfl) ?_
  refine zae ?_
  refine zaf ?_
  refine zac ?_
  refine zab rfl rfl rfl (zad (.inl rfl) (ev1 rfl)) ?_
  refine zab rfl rfl rfl (op_nc rfl (ev1 rfl) (fun s v h => by cases h; exact ⟨_, rfl⟩)) ?_
  refine zab rfl rfl rfl (zap rfl fo101_0 (ev1 rfl)) ?_
  refine zab rfl rfl rfl (zas rfl tb29 (ev1 rfl) rfl (zao _)) ?_
  refine zax rfl rfl (op_stwa rfl tb29 (ev1 rfl) (ev1 rfl) rfl (zao _) (frC_oc _) rfl) (by simp only [upd, za, zaa]; exact rfl) ?_
  refine zax rfl rfl (op_stwi rfl tb34 (ev1 rfl) (ev1 rfl) rfl) (by simp only [upd, za, zaa]; exact rfl) ?_
  refine zae ?_
  refine zau ?_
  refine kdef (dturn_idle [3] [] rfl rfl (propose1_idle _) rfl rfl rfl rfl rfl) ?_
  refine kend0 (rs2 rfl (rv_w tb29 rfl rfl (zao _)) (rv_1 tb34 rfl rfl rfl)) rfl ?_
  rfl
theorem pro_d (f : FrM) (l : LogM) (n : Int) : DFun Tryz.prog 32 [.val (.agg (frC f).toArray), .agg (logD l), .val (.int .i64 n)] [] (.tup [.val (.agg (frC (proF f l n).1).toArray), .val (.int .i64 (proF f l n).2)]) [] := by
  unfold proF
  cases hf : frB f
  · exact pro_no f l n hf
  · rw [if_neg (by decide)]
    cases hl : logB l
    · exact pro_log f l n hf hl
    · rw [if_neg (by decide)]
      by_cases hn : n < 0
      · rw [if_pos hn]; exact pro_arg f l n hf hl hn
      · rw [if_neg hn]
        by_cases hp : f.pr = 0
        · rw [if_neg (fun h => h hp)]
          by_cases hm : n < (l.ops.length : Int)
          · rw [if_neg (fun h => h hm)]
            by_cases ht : (f.fo : Int) < tmL l n
            · rw [if_neg (fun h => h ht)]; exact pro_ok f l n hf hl hn hp hm ht
            · rw [if_pos ht]; exact pro_low f l n hf hl hn hp hm ht
          · rw [if_pos hm]; exact pro_few f l n hf hl hn hp hm
        · rw [if_pos hp]; exact pro_there f l n hf hl hn hp
def mkO (t s q : Int) : OpM := ⟨⟨t, s, q⟩, 3, 0, 0, 0, 0, 0, zC4, 0, 0, [], zI3⟩
theorem wkMk (t s q : Int) : Wk (.val (.agg #[.int .u64 t, .int .i64 s, .int .u64 q, .int .i64 3, .int .i64 0, .int .i64 0, .int .i64 0, .int .i64 0, .int .i64 0, .int .u8 0, .int .u8 0, .int .u8 0, .int .u8 0, .int .i64 0, .int .i64 0, .slice none 0 0, .int .u64 0, .int .i64 0, .int .u64 0])) (.agg (opD (mkO t s q))) :=
  (Wk.vagg _).trans (Wk.agg (WkL.cons (Wk.refl _) (WkL.cons (Wk.refl _) (WkL.cons (Wk.refl _) (WkL.cons (Wk.refl _) (WkL.cons (Wk.refl _) (WkL.cons (Wk.refl _) (WkL.cons (Wk.refl _) (WkL.cons (Wk.refl _) (WkL.cons (Wk.refl _) (WkL.cons (Wk.refl _) (WkL.cons (Wk.refl _) (WkL.cons (Wk.refl _) (WkL.cons (Wk.refl _) (WkL.cons (Wk.refl _) (WkL.cons (Wk.refl _) (WkL.cons (Wk.slf0 4) (WkL.cons (Wk.refl _) (WkL.cons (Wk.refl _) (WkL.cons (Wk.refl _) WkL.nil))))))))))))))))))))
set_option maxRecDepth 4000 in
set_option maxHeartbeats 1000000 in
theorem mark_v (t s q : Int) : DFun Tryz.prog 43 [.val (.int .u64 t), .val (.int .i64 s), .val (.int .u64 q)] [] (.val (.agg #[.int .u64 t, .int .i64 s, .int .u64 q, .int .i64 3, .int .i64 0, .int .i64 0, .int .i64 0, .int .i64 0, .int .i64 0, .int .u8 0, .int .u8 0, .int .u8 0, .int .u8 0, .int .i64 0, .int .i64 0, .slice none 0 0, .int .u64 0, .int .i64 0, .int .u64 0])) [] := by
  refine zba (N := 12) 0 (by kernel_rfl) Tryz.func43 rfl rfl rfl (by simp only [fr0, Nat.zero_add, Nat.reduceAdd]; exact rfl) rfl fun s0 hs0 => ?_
  refine zaf ?_
  refine zaj 1 (by simp only [holes, List.cons_append, List.nil_append]; exact rfl) ?_
  refine zac ?_
  refine zam rfl rfl rfl (zaq 0 rfl zr68 rfl) (by simp only [upd, za, zaa]; exact rfl) ?_
  refine zae ?_
  refine zaf ?_
  refine zac ?_
  refine zab rfl rfl rfl (zad (.inl rfl) (ev1 rfl)) ?_
  refine zab rfl rfl rfl (zad (.inl rfl) (ev1 rfl)) ?_
  refine zab rfl rfl rfl (zad (.inl rfl) (ev1 rfl)) ?_
  refine zab rfl rfl rfl (op_build (ps := [(0, .tmp 7), (1, .tmp 8), (2, .tmp 9)]) rfl fl61 zr61 (vc (ev1 rfl) (vc (ev1 rfl) (vc (ev1 rfl) vn))) rfl rfl) ?_
  refine zab rfl rfl rfl (op_build (ps := [(0, .tmp 10), (1, .const (.int .i64 3))]) rfl fl68 zr68 (vc (ev1 rfl) (vc (ev1 rfl) vn)) rfl rfl) ?_
  refine zax rfl rfl (op_stwa rfl tb68 (ev1 rfl) (ev1 rfl) rfl rfl rfl rfl) (by simp only [upd, za, zaa]; exact rfl) ?_
  refine zae ?_
  refine zau ?_
  refine kend0 (rs1 rfl (rv_w tb68 rfl rfl rfl)) rfl ?_
  rfl
theorem mark_d (t s q : Int) : DFun Tryz.prog 43 [.val (.int .u64 t), .val (.int .i64 s), .val (.int .u64 q)] [] (.agg (opD (mkO t s q))) [] := (mark_v t s q).wk (wkMk t s q)
set_option maxRecDepth 4000 in
set_option maxHeartbeats 1000000 in
theorem fnew_d : DFun Tryz.prog 12 [] [] (.val (.agg (frC zF).toArray)) [] := by
  refine zba (N := 2) 0 (by kernel_rfl) Tryz.func12 rfl rfl rfl (by simp only [fr0, Nat.zero_add, Nat.reduceAdd]; exact rfl) rfl fun s0 hs0 => ?_
  refine zaf ?_
  refine zaj 1 (by simp only [holes, List.cons_append, List.nil_append]; exact rfl) ?_
  refine zac ?_
  refine zam rfl rfl rfl (zaq 0 rfl zr29 rfl) (by simp only [upd, za, zaa]; exact rfl) ?_
  refine zae ?_
  refine zaf ?_
  refine zac ?_
  refine zab rfl rfl rfl (op_build0 rfl fl29 zr29) ?_
  refine zax rfl rfl (op_stwa rfl tb29 (ev1 rfl) (ev1 rfl) rfl (zao _) (frC_oc _) rfl) (by simp only [upd, za, zaa]; exact rfl) ?_
  refine zae ?_
  refine zau ?_
  refine kend0 (rs1 rfl (rv_w tb29 rfl rfl (zao _))) rfl ?_
  rfl
set_option maxRecDepth 4000 in
set_option maxHeartbeats 1000000 in
theorem equalI (l r : List Int) : DFun Tryz.prog 20 [.slf 1 (l).length ((l).flatMap inI), .slf 1 (r).length ((r).flatMap inI)] [] (.val (.bool (decide (l = r)))) [] := by
  refine zba (N := 26) 0 (by kernel_rfl) Tryz.func20 rfl rfl rfl (by simp only [fr0, Nat.zero_add, Nat.reduceAdd]; exact rfl) rfl fun s0 hs0 => ?_
  refine dwp_len (t := 0) rfl fun hl0 hL0 => ?_
  refine dwp_len (t := 1) rfl fun hl1 hL1 => ?_
  refine zaf ?_
  refine zac ?_
  refine zab rfl rfl rfl (zad (.inr rfl) (ev1 rfl)) ?_
  refine zae ?_
  refine zaf ?_
  refine zaf ?_
  refine zac ?_
  refine zab rfl rfl rfl (zad (.inl rfl) (ev1 rfl)) ?_
  refine zab rfl rfl rfl (op_len rfl sl31 (ev1 rfl)) ?_
  refine zab rfl rfl rfl (zad (.inl rfl) (ev1 rfl)) ?_
  refine zab rfl rfl rfl (op_len rfl sl31 (ev1 rfl)) ?_
  refine zab rfl rfl rfl (op_neq rfl (ev1 rfl) (ev1 rfl)) ?_
  refine zae ?_
  refine zaw rfl (fun c1 => ?_) (fun c1 => ?_)
  · try simp only [decide_eq_true_eq, decide_eq_false_iff_not, beq_iff_eq, bne_iff_ne, beq_eq_false_iff_ne, bne_eq_false_iff_eq, Bool.not_eq_true', Bool.not_eq_false', Bool.and_eq_true, Bool.or_eq_true, Bool.or_eq_false_iff, ne_eq, Decidable.not_not, Int.not_lt, Int.not_le] at c1
    refine zaf ?_
    refine zac ?_
    refine zab rfl rfl rfl (zad (.inr rfl) (ev1 rfl)) ?_
    refine zae ?_
    refine zau ?_
    refine kend0 (rs1 rfl (rv_t rfl)) rfl ?_
    have hne : l ≠ r := fun e => by subst e; exact c1 rfl
    rw [decide_eq_false hne]
  · try simp only [decide_eq_true_eq, decide_eq_false_iff_not, beq_iff_eq, bne_iff_ne, beq_eq_false_iff_ne, bne_eq_false_iff_eq, Bool.not_eq_true', Bool.not_eq_false', Bool.and_eq_true, Bool.or_eq_true, Bool.or_eq_false_iff, ne_eq, Decidable.not_not, Int.not_lt, Int.not_le] at c1
    have hlen : l.length = r.length := by omega
    refine zak ?_
    refine zaf ?_
    refine zaf ?_
    refine zac ?_
    refine zab rfl rfl rfl (zad (.inl rfl) (ev1 rfl)) ?_
    refine zab rfl rfl rfl (op_len rfl sl31 (ev1 rfl)) ?_
    refine zab rfl rfl rfl (zad (.inl rfl) (ev1 rfl)) ?_
    refine zae ?_
    refine zat ?_
    refine dwp_loopS ⟨hs0, rfl⟩ (α := Nat) (fun k => [(13, .val (.int .i64 (k : Int)))]) [(0, _), (1, _), (12, _)] (fun k => []) [] (fun k => k ≤ l.length ∧ l.take k = r.take k) (fun k => l.length - k) 0 [] (by simp) rfl ⟨rfl, rfl, rfl, trivial⟩ ⟨rfl, trivial⟩ trivial ?_
    intro k hx
    simp only [upd, za, zaa, List.cons_append, List.nil_append]
    obtain ⟨hk, he⟩ := hx
    refine zaf ?_
    refine zac ?_
    refine zab rfl rfl rfl (op_lss rfl (ev1 rfl) (ev1 rfl)) ?_
    refine zae ?_
    refine zaf ?_
    refine zaw rfl (fun c2 => ?_) (fun c2 => ?_)
    · try simp only [decide_eq_true_eq, decide_eq_false_iff_not, beq_iff_eq, bne_iff_ne, beq_eq_false_iff_ne, bne_eq_false_iff_eq, Bool.not_eq_true', Bool.not_eq_false', Bool.and_eq_true, Bool.or_eq_true, Bool.or_eq_false_iff, ne_eq, Decidable.not_not, Int.not_lt, Int.not_le] at c2
      refine zak ?_
      refine zaf ?_
      refine zat ?_
      refine zaf ?_
      refine zac ?_
      refine zab rfl rfl rfl (zad (.inl rfl) (ev1 rfl)) ?_
      refine zab rfl rfl rfl (zad (.inr rfl) (ev1 rfl)) ?_
      refine zae ?_
      refine zaf ?_
      refine dwp_draw [([], []), ([], []), ([], []), ([], []), ([], []), ([], []), ([], []), ([], []), ([], [])] mixed (by kernel_rfl) ?_
      refine lex_r rfl rfl (zad (.inl rfl) (ev1 rfl)) ?_
      refine lex_r rfl rfl (zad (.inl rfl) (ev1 rfl)) ?_
      refine lex_r rfl rfl (op_ixsr (j := k) rfl sl31 (ev1 rfl) (ev1 rfl) (fun _ => rfl) (by decide) (by omega) (by omega)) ?_
      refine lex_r rfl rfl (op_ldod rfl tb3 (ev1 rfl) rfl) ?_
      refine lex_r rfl rfl (zad (.inl rfl) (ev1 rfl)) ?_
      refine lex_r rfl rfl (zad (.inl rfl) (ev1 rfl)) ?_
      refine lex_r rfl rfl (op_ixsr (j := k) rfl sl31 (ev1 rfl) (ev1 rfl) (fun _ => rfl) (by decide) (by omega) (by omega)) ?_
      refine lex_r rfl rfl (op_ldod rfl tb3 (ev1 rfl) rfl) ?_
      refine lex_r rfl rfl (op_neq rfl (ev1 rfl) (ev1 rfl)) ?_
      refine lex_nil ?_
      refine zaw rfl (fun c2 => ?_) (fun c2 => ?_)
      · have c3 : l[k] ≠ r[k] := by simpa using c2
        refine zaf ?_
        refine zac ?_
        refine zab rfl rfl rfl (zad (.inr rfl) (ev1 rfl)) ?_
        refine zae ?_
        refine zau ?_
        refine kend0 (rs1 rfl (rv_t rfl)) rfl ?_
        have hne : l ≠ r := fun e => by subst e; exact c3 rfl
        rw [decide_eq_false hne]
      · have c3 : l[k] = r[k] := by simpa using c2
        refine zak ?_
        refine zac ?_
        refine zab rfl rfl rfl (op_add' rfl (ev1 rfl) (ev1 rfl) (fun _ => IntWalk.i64_in _ (by omega))) ?_
        refine zab rfl rfl rfl (zad (.inl rfl) (ev1 rfl)) ?_
        refine zae ?_
        refine ⟨k + 1, [], ⟨by omega, by rw [List.take_succ_eq_append_getElem (by omega), List.take_succ_eq_append_getElem (by omega), he, c3]⟩, by simp only []; omega, rfl, ⟨rfl, rfl, rfl, rfl, trivial⟩, trivial⟩
    · try simp only [decide_eq_true_eq, decide_eq_false_iff_not, beq_iff_eq, bne_iff_ne, beq_eq_false_iff_ne, bne_eq_false_iff_eq, Bool.not_eq_true', Bool.not_eq_false', Bool.and_eq_true, Bool.or_eq_true, Bool.or_eq_false_iff, ne_eq, Decidable.not_not, Int.not_lt, Int.not_le] at c2
      refine dwp_exit ?_
      refine zaf ?_
      refine zac ?_
      refine zab rfl rfl rfl (zad (.inr rfl) (ev1 rfl)) ?_
      refine zae ?_
      refine zau ?_
      refine kend0 (rs1 rfl (rv_t rfl)) rfl ?_
      have e : l = r := by
        have h := he
        rw [List.take_of_length_le (by omega), List.take_of_length_le (by omega)] at h
        exact h
      rw [decide_eq_true e]
end Go.Proofs.YtnjnhghafjlmbaaGreat
namespace Go.Proofs.YtnjnhghafjlmbaaGreat
set_option linter.unusedVariables false
set_option linter.unusedSimpArgs false
open Go.RowKit
theorem fl58 : fdL Tryz.prog 58 = some [(0, 1), (1, 9), (10, 1)] := by kernel_rfl
theorem zr58 : zrC Tryz.prog 58 = some [.int .u64 0, .int .u64 0, .int .u64 0, .int .u64 0, .int .u64 0, .int .u64 0, .int .u64 0, .int .u64 0, .int .u64 0, .int .u64 0, .slice none 0 0] := by kernel_rfl
def setV : Vec := fun i => if i = 1 then 2 else if i = 2 then 1 else 0
def oneV : Vec := fun i => if i = 1 then 1 else if i = 2 then 1 else 0
abbrev wLg : LogM := ⟨0, z9, [mkO 3 1 1, mkO 5 1 2, mkO 8 2 1]⟩
set_option maxRecDepth 4000 in
set_option maxHeartbeats 1000000 in
theorem wakes_d : DFun Tryz.prog 9 [] [] (.val (.bool true)) [] := by
  refine zba (N := 140) 0 (by kernel_rfl) Tryz.func9 rfl rfl rfl (by simp only [fr0, Nat.zero_add, Nat.reduceAdd]; exact rfl) rfl fun s0 hs0 => ?_
  refine zaf ?_
  refine zac ?_
  refine zab rfl rfl rfl (zad (.inr rfl) (ev1 rfl)) ?_
  refine zae ?_
  refine zaf ?_
  refine zaj 1 (by simp only [holes, List.cons_append, List.nil_append]; exact rfl) ?_
  refine zac ?_
  refine zab rfl rfl rfl (zah [] [] [] rfl (ev1 rfl) en rfl rfl (fnew_d) rfl rfl rfl rfl rfl rfl) ?_
  refine zab rfl rfl rfl (zah [] [] [] rfl (ev1 rfl) (ec (ev1 rfl) (ec (ev1 rfl) en)) rfl rfl (reg_d _ _) rfl rfl rfl rfl rfl rfl) ?_
  refine zab rfl rfl rfl (zad (.inl rfl) (ev1 rfl)) ?_
  refine zab rfl rfl rfl (op_ext rfl (ev1 rfl) rfl) ?_
  refine zab rfl rfl rfl (op_ext rfl (ev1 rfl) rfl) ?_
  refine zam rfl rfl rfl (zaq 0 rfl zr29 rfl) (by simp only [upd, za, zaa]; exact rfl) ?_
  refine zax rfl rfl (op_stwa rfl tb29 (ev1 rfl) (ev1 rfl) rfl (zao _) (frC_oc _) rfl) (by simp only [upd, za, zaa]; exact rfl) ?_
  refine zab rfl rfl rfl (zad (.inr rfl) (ev1 rfl)) ?_
  refine zae ?_
  refine zaf ?_
  refine zac ?_
  refine zab rfl rfl rfl (zas rfl tb29 (ev1 rfl) rfl (zao _)) ?_
  refine zab rfl rfl rfl (zah [] [] [] rfl (ev1 rfl) (ec (ev1 rfl) (ec (ev1 rfl) en)) rfl rfl (reg_d _ _) rfl rfl rfl rfl rfl rfl) ?_
  refine zab rfl rfl rfl (zad (.inl rfl) (ev1 rfl)) ?_
  refine zab rfl rfl rfl (op_ext rfl (ev1 rfl) rfl) ?_
  refine zab rfl rfl rfl (op_ext rfl (ev1 rfl) rfl) ?_
  refine zax rfl rfl (op_stwa rfl tb29 (ev1 rfl) (ev1 rfl) rfl (zao _) (frC_oc _) rfl) (by simp only [upd, za, zaa]; exact rfl) ?_
  refine zab rfl rfl rfl (zad (.inr rfl) (ev1 rfl)) ?_
  refine zae ?_
  refine zaf ?_
  refine zaj 1 (by simp only [holes, List.cons_append, List.nil_append]; exact rfl) ?_
  refine zac ?_
  refine zab rfl rfl rfl (zah [] [] [] rfl (ev1 rfl) (ec (ev1 rfl) (ec (ev1 rfl) (ec (ev1 rfl) en))) rfl rfl (mark_d _ _ _) rfl rfl rfl rfl rfl rfl) ?_
  refine zab rfl rfl rfl (zah [] [] [] rfl (ev1 rfl) (ec (ev1 rfl) (ec (ev1 rfl) (ec (ev1 rfl) en))) rfl rfl (mark_d _ _ _) rfl rfl rfl rfl rfl rfl) ?_
  refine zab rfl rfl rfl (zah [] [] [] rfl (ev1 rfl) (ec (ev1 rfl) (ec (ev1 rfl) (ec (ev1 rfl) en))) rfl rfl (mark_d _ _ _) rfl rfl rfl rfl rfl rfl) ?_
  refine zab rfl rfl rfl (op_bsr (ps := [(0, .tmp 26), (1, .tmp 27), (2, .tmp 28)]) rfl sl56 zr68 rfl (ec (ev1 rfl) (ec (ev1 rfl) (ec (ev1 rfl) en))) rfl rfl rfl (by rfl) rfl (by decide) (by decide)) ?_
  refine zab rfl rfl rfl (op_bldD (ps := [(2, .tmp 29)]) rfl fl58 zr58 (ec (ev1 rfl) en) rfl rfl rfl) ?_
  refine zam rfl rfl rfl (zaq 1 rfl zr58 rfl) (by simp only [upd, za, zaa]; exact rfl) ?_
  refine zax rfl rfl (op_stam rfl tb58 (ev1 rfl) (ev1 rfl) rfl rfl rfl rfl) (by simp only [upd, za, zaa]; exact rfl) ?_
  refine zae ?_
  refine zaf ?_
  refine zaj 1 (by simp only [holes, List.cons_append, List.nil_append]; exact rfl) ?_
  refine zac ?_
  refine zab rfl rfl rfl (zas rfl tb29 (ev1 rfl) rfl (zao _)) ?_
  refine zab rfl rfl rfl (op_ldmw rfl tb58 (ev1 rfl) rfl rfl) ?_
  refine zab rfl rfl rfl (zah [] [] [] rfl (ev1 rfl) (ec (ev1 rfl) (ec (ev1 rfl) (ec (ev1 rfl) en))) rfl rfl (pro_d _ wLg _) rfl rfl rfl rfl rfl rfl) ?_
  refine zab rfl rfl rfl (zad (.inl rfl) (ev1 rfl)) ?_
  refine zab rfl rfl rfl (op_ext rfl (ev1 rfl) rfl) ?_
  refine zab rfl rfl rfl (op_ext rfl (ev1 rfl) rfl) ?_
  refine zam rfl rfl rfl (zaq 2 rfl zr29 rfl) (by simp only [upd, za, zaa]; exact rfl) ?_
  refine zax rfl rfl (op_stwa rfl tb29 (ev1 rfl) (ev1 rfl) rfl (zao _) (frC_oc _) rfl) (by simp only [upd, za, zaa]; exact rfl) ?_
  refine zab rfl rfl rfl (zad (.inr rfl) (ev1 rfl)) ?_
  refine zae ?_
  refine zaf ?_
  refine zac ?_
  refine zab rfl rfl rfl (zas rfl tb29 (ev1 rfl) rfl (zao _)) ?_
  refine zab rfl rfl rfl (op_ldmw rfl tb58 (ev1 rfl) rfl rfl) ?_
  refine zab rfl rfl rfl (zah [] [] [] rfl (ev1 rfl) (ec (ev1 rfl) (ec (ev1 rfl) (ec (ev1 rfl) en))) rfl rfl (pro_d _ wLg _) rfl rfl rfl rfl rfl rfl) ?_
  refine zab rfl rfl rfl (zad (.inl rfl) (ev1 rfl)) ?_
  refine zab rfl rfl rfl (op_ext rfl (ev1 rfl) rfl) ?_
  refine zab rfl rfl rfl (op_ext rfl (ev1 rfl) rfl) ?_
  refine zax rfl rfl (op_stwa rfl tb29 (ev1 rfl) (ev1 rfl) rfl (zao _) (frC_oc _) rfl) (by simp only [upd, za, zaa]; exact rfl) ?_
  refine zab rfl rfl rfl (zad (.inr rfl) (ev1 rfl)) ?_
  refine zae ?_
  refine zaf ?_
  refine zaj 1 (by simp only [holes, List.cons_append, List.nil_append]; exact rfl) ?_
  refine zac ?_
  refine zab rfl rfl rfl ((op_bldaD (ps := [(1, .const (.int .u64 2)), (2, .const (.int .u64 1))]) rfl ar24 zr24 (ec (ev1 rfl) (ec (ev1 rfl) en)) rfl rfl rfl rfl).wk (Wk.aggv (c9 setV))) ?_
  refine zam rfl rfl rfl (zaq 3 rfl zr24 rfl) (by simp only [upd, za, zaa]; exact rfl) ?_
  refine zax rfl rfl (op_stwa rfl tb24 (ev1 rfl) (ev1 rfl) rfl rfl rfl rfl) (by simp only [upd, za, zaa]; exact rfl) ?_
  refine zae ?_
  refine zaf ?_
  refine zac ?_
  refine zab rfl rfl rfl (zas rfl tb29 (ev1 rfl) rfl (zao _)) ?_
  refine zab rfl rfl rfl (zas rfl tb24 (ev1 rfl) rfl rfl) ?_
  refine zab rfl rfl rfl ((op_build (ps := [(0, .const (.bool true)), (1, .const (.int .u64 5)), (2, .const (.int .u64 2)), (3, .tmp 46)]) rfl fl26 zr26 (vc (ev1 rfl) (vc (ev1 rfl) (vc (ev1 rfl) (vc (ev1 rfl) vn)))) rfl rfl).cast (d' := .val (.agg (plC ⟨true, 5, 2, setV⟩).toArray)) (by kernel_rfl)) ?_
  refine zab rfl rfl rfl (zah [] [] [] rfl (ev1 rfl) (ec (ev1 rfl) (ec (ev1 rfl) (ec (ev1 rfl) en))) rfl rfl (hea_d _ _ _) rfl rfl rfl rfl rfl rfl) ?_
  refine zab rfl rfl rfl (zad (.inl rfl) (ev1 rfl)) ?_
  refine zab rfl rfl rfl (op_ext rfl (ev1 rfl) rfl) ?_
  refine zab rfl rfl rfl (op_ext rfl (ev1 rfl) rfl) ?_
  refine zax rfl rfl (op_stwa rfl tb29 (ev1 rfl) (ev1 rfl) rfl (zao _) (frC_oc _) rfl) (by simp only [upd, za, zaa]; exact rfl) ?_
  refine zab rfl rfl rfl (zad (.inr rfl) (ev1 rfl)) ?_
  refine zae ?_
  refine zaf ?_
  refine zac ?_
  refine zab rfl rfl rfl (zas rfl tb29 (ev1 rfl) rfl (zao _)) ?_
  refine zab rfl rfl rfl ((op_bldaD (ps := [(1, .const (.int .u64 1)), (2, .const (.int .u64 1))]) rfl ar24 zr24 (ec (ev1 rfl) (ec (ev1 rfl) en)) rfl rfl rfl rfl).wk (Wk.aggv (c9 oneV))) ?_
  refine zab rfl rfl rfl ((op_build (ps := [(0, .const (.bool true)), (1, .const (.int .u64 6)), (2, .const (.int .u64 1)), (3, .tmp 53)]) rfl fl26 zr26 (vc (ev1 rfl) (vc (ev1 rfl) (vc (ev1 rfl) (vc (ev1 rfl) vn)))) rfl rfl).cast (d' := .val (.agg (plC ⟨true, 6, 1, oneV⟩).toArray)) (by kernel_rfl)) ?_
  refine zab rfl rfl rfl (zah [] [] [] rfl (ev1 rfl) (ec (ev1 rfl) (ec (ev1 rfl) (ec (ev1 rfl) en))) rfl rfl (hea_d _ _ _) rfl rfl rfl rfl rfl rfl) ?_
  refine zab rfl rfl rfl (zad (.inl rfl) (ev1 rfl)) ?_
  refine zab rfl rfl rfl (op_ext rfl (ev1 rfl) rfl) ?_
  refine zab rfl rfl rfl (op_ext rfl (ev1 rfl) rfl) ?_
  refine zax rfl rfl (op_stwa rfl tb29 (ev1 rfl) (ev1 rfl) rfl (zao _) (frC_oc _) rfl) (by simp only [upd, za, zaa]; exact rfl) ?_
  refine zab rfl rfl rfl (zad (.inr rfl) (ev1 rfl)) ?_
  refine zae ?_
  refine zaf ?_
  refine zac ?_
  refine zab rfl rfl rfl (zas rfl tb29 (ev1 rfl) rfl (zao _)) ?_
  refine zab rfl rfl rfl (zas rfl tb24 (ev1 rfl) rfl rfl) ?_
  refine zab rfl rfl rfl (zah [] [] [] rfl (ev1 rfl) (ec (ev1 rfl) (ec (ev1 rfl) en)) rfl rfl (wai_d _ _) rfl rfl rfl rfl rfl rfl) ?_
  refine zab rfl rfl rfl (zad (.inr rfl) (ev1 rfl)) ?_
  refine zae ?_
  refine zaf ?_
  refine zac ?_
  refine zab rfl rfl rfl (zas rfl tb29 (ev1 rfl) rfl (zao _)) ?_
  refine zab rfl rfl rfl (zas rfl tb24 (ev1 rfl) rfl rfl) ?_
  refine zab rfl rfl rfl ((op_build (ps := [(0, .const (.bool true)), (1, .const (.int .u64 6)), (2, .const (.int .u64 9)), (3, .tmp 63)]) rfl fl26 zr26 (vc (ev1 rfl) (vc (ev1 rfl) (vc (ev1 rfl) (vc (ev1 rfl) vn)))) rfl rfl).cast (d' := .val (.agg (plC ⟨true, 6, 9, setV⟩).toArray)) (by kernel_rfl)) ?_
  refine zab rfl rfl rfl (zah [] [] [] rfl (ev1 rfl) (ec (ev1 rfl) (ec (ev1 rfl) (ec (ev1 rfl) en))) rfl rfl (hea_d _ _ _) rfl rfl rfl rfl rfl rfl) ?_
  refine zab rfl rfl rfl (zad (.inl rfl) (ev1 rfl)) ?_
  refine zab rfl rfl rfl (op_ext rfl (ev1 rfl) rfl) ?_
  refine zab rfl rfl rfl (op_ext rfl (ev1 rfl) rfl) ?_
  refine zax rfl rfl (op_stwa rfl tb29 (ev1 rfl) (ev1 rfl) rfl (zao _) (frC_oc _) rfl) (by simp only [upd, za, zaa]; exact rfl) ?_
  refine zab rfl rfl rfl (zad (.inr rfl) (ev1 rfl)) ?_
  refine zae ?_
  refine zaf ?_
  refine zaj 1 (by simp only [holes, List.cons_append, List.nil_append]; exact rfl) ?_
  refine zac ?_
  refine zab rfl rfl rfl (zas rfl tb29 (ev1 rfl) rfl (zao _)) ?_
  refine zab rfl rfl rfl (zas rfl tb24 (ev1 rfl) rfl rfl) ?_
  refine zab rfl rfl rfl (zah [] [] [] rfl (ev1 rfl) (ec (ev1 rfl) (ec (ev1 rfl) en)) rfl rfl (rdy_d _ _) rfl rfl rfl rfl rfl rfl) ?_
  refine zab rfl rfl rfl (zad (.inl rfl) (ev1 rfl)) ?_
  refine zab rfl rfl rfl (op_ext rfl (ev1 rfl) rfl) ?_
  refine zab rfl rfl rfl (op_ext rfl (ev1 rfl) rfl) ?_
  refine zam rfl rfl rfl (zaq 4 rfl zr24 rfl) (by simp only [upd, za, zaa]; exact rfl) ?_
  refine zax rfl rfl (op_stwa rfl tb24 (ev1 rfl) (ev1 rfl) rfl rfl rfl rfl) (by simp only [upd, za, zaa]; exact rfl) ?_
  refine zab rfl rfl rfl (zad (.inr rfl) (ev1 rfl)) ?_
  refine zae ?_
  refine zaf ?_
  refine zac ?_
  refine zab rfl rfl rfl (zas rfl tb29 (ev1 rfl) rfl (zao _)) ?_
  refine zab rfl rfl rfl (zas rfl tb24 (ev1 rfl) rfl rfl) ?_
  refine zab rfl rfl rfl (zah [] [] [] rfl (ev1 rfl) (ec (ev1 rfl) (ec (ev1 rfl) en)) rfl rfl (fol_d _ _) rfl rfl rfl rfl rfl rfl) ?_
  refine zab rfl rfl rfl (zad (.inl rfl) (ev1 rfl)) ?_
  refine zab rfl rfl rfl (op_ext rfl (ev1 rfl) rfl) ?_
  refine zab rfl rfl rfl (op_ext rfl (ev1 rfl) rfl) ?_
  refine zax rfl rfl (op_stwa rfl tb29 (ev1 rfl) (ev1 rfl) rfl (zao _) (frC_oc _) rfl) (by simp only [upd, za, zaa]; exact rfl) ?_
  refine zab rfl rfl rfl (zad (.inr rfl) (ev1 rfl)) ?_
  refine zae ?_
  refine zaf ?_
  refine zac ?_
  refine zab rfl rfl rfl (zad (.inl rfl) (ev1 rfl)) ?_
  refine zab rfl rfl rfl (zb rfl (ev1 rfl) (ev1 rfl)) ?_
  refine zab rfl rfl rfl (zad (.inl rfl) (ev1 rfl)) ?_
  refine zag (zar rfl rfl rfl) rfl rfl rfl (zad (.inl rfl) (ev1 rfl)) ?_
  refine zag (zar rfl rfl rfl) rfl rfl rfl (zb rfl (ev2 rfl) (ev1 rfl)) ?_
  refine zab rfl rfl rfl (zaz rfl (ev1 rfl) (ev3 rfl id)) ?_
  refine zab rfl rfl rfl (zad (.inl rfl) (ev1 rfl)) ?_
  refine zag (zar rfl rfl rfl) rfl rfl rfl (zad (.inl rfl) (ev1 rfl)) ?_
  refine zag (zar rfl rfl rfl) rfl rfl rfl (zb rfl (ev2 rfl) (ev1 rfl)) ?_
  refine zab rfl rfl rfl (zaz rfl (ev1 rfl) (ev3 rfl id)) ?_
  refine zab rfl rfl rfl (zad (.inl rfl) (ev1 rfl)) ?_
  refine zag (zar rfl rfl rfl) rfl rfl rfl (zad (.inl rfl) (ev1 rfl)) ?_
  refine zag (zar rfl rfl rfl) rfl rfl rfl (zb rfl (ev2 rfl) (ev1 rfl)) ?_
  refine zab rfl rfl rfl (zaz rfl (ev1 rfl) (ev3 rfl id)) ?_
  refine zab rfl rfl rfl (zad (.inl rfl) (ev1 rfl)) ?_
  refine zag (zar rfl rfl rfl) rfl rfl rfl (zad (.inl rfl) (ev1 rfl)) ?_
  refine zag (zar rfl rfl rfl) rfl rfl rfl (zb rfl (ev2 rfl) (ev1 rfl)) ?_
  refine zab rfl rfl rfl (zaz rfl (ev1 rfl) (ev3 rfl id)) ?_
  refine zab rfl rfl rfl (zad (.inl rfl) (ev1 rfl)) ?_
  refine zag (zar rfl rfl rfl) rfl rfl rfl (zad (.inl rfl) (ev1 rfl)) ?_
  refine zag (zar rfl rfl rfl) rfl rfl rfl (zb rfl (ev2 rfl) (ev1 rfl)) ?_
  refine zab rfl rfl rfl (zaz rfl (ev1 rfl) (ev3 rfl id)) ?_
  refine zab rfl rfl rfl (zad (.inl rfl) (ev1 rfl)) ?_
  refine zag (zar rfl rfl rfl) rfl rfl rfl (zad (.inl rfl) (ev1 rfl)) ?_
  refine zag (zar rfl rfl rfl) rfl rfl rfl (zb rfl (ev2 rfl) (ev1 rfl)) ?_
  refine zab rfl rfl rfl (zaz rfl (ev1 rfl) (ev3 rfl id)) ?_
  refine zab rfl rfl rfl (zad (.inl rfl) (ev1 rfl)) ?_
  refine zag (zar rfl rfl rfl) rfl rfl rfl (zad (.inl rfl) (ev1 rfl)) ?_
  refine zag (zar rfl rfl rfl) rfl rfl rfl (zb rfl (ev2 rfl) (ev1 rfl)) ?_
  refine zab rfl rfl rfl (zaz rfl (ev1 rfl) (ev3 rfl id)) ?_
  refine zab rfl rfl rfl (zad (.inl rfl) (ev1 rfl)) ?_
  refine zag (zar rfl rfl rfl) rfl rfl rfl (zad (.inl rfl) (ev1 rfl)) ?_
  refine zag (zar rfl rfl rfl) rfl rfl rfl (op_bs (ps := [(0, .const (.int .i64 2))]) rfl sl31 zr3 rfl (vc (ev1 rfl) vn) rfl (by decide) (by decide)) ?_
  refine zag (zar rfl rfl rfl) rfl rfl rfl (zah [] [] [] rfl (ev1 rfl) (ec (ev2 rfl) (ec (ev2 rfl) en)) rfl rfl (equalI _ [2]) rfl rfl rfl rfl rfl rfl) ?_
  refine zab rfl rfl rfl (zaz rfl (ev1 rfl) (ev3 rfl id)) ?_
  refine zab rfl rfl rfl (zad (.inl rfl) (ev1 rfl)) ?_
  refine zag (zar rfl rfl rfl) rfl rfl rfl (zad (.inl rfl) (ev1 rfl)) ?_
  refine zab rfl rfl rfl (zaz rfl (ev1 rfl) (ev3 rfl id)) ?_
  refine zab rfl rfl rfl (zad (.inl rfl) (ev1 rfl)) ?_
  refine zag (zar rfl rfl rfl) rfl rfl rfl (zas rfl tb24 (ev1 rfl) rfl rfl) ?_
  refine zag (zar rfl rfl rfl) rfl rfl rfl (zas rfl tb24 (ev1 rfl) rfl rfl) ?_
  refine zag (zar rfl rfl rfl) rfl rfl rfl (op_eqr eq24 rfl gd24 tb24 (ev2 rfl) (ev2 rfl)) ?_
  refine zab rfl rfl rfl (zaz rfl (ev1 rfl) (ev3 rfl id)) ?_
  refine zab rfl rfl rfl (zad (.inl rfl) (ev1 rfl)) ?_
  refine zag (zar rfl rfl rfl) rfl rfl rfl (zap rfl fo29_0 (ev1 rfl)) ?_
  refine zag (zar rfl rfl rfl) rfl rfl rfl (op_ldo rfl tb22 (ev2 rfl) rfl rfl) ?_
  refine zag (zar rfl rfl rfl) rfl rfl rfl (zb rfl (ev2 rfl) (ev1 rfl)) ?_
  refine zab rfl rfl rfl (zaz rfl (ev1 rfl) (ev3 rfl id)) ?_
  refine zab rfl rfl rfl (zad (.inl rfl) (ev1 rfl)) ?_
  refine zag (zar rfl rfl rfl) rfl rfl rfl (zap rfl fo29_1 (ev1 rfl)) ?_
  refine zag (zar rfl rfl rfl) rfl rfl rfl (op_ldr rfl tb24 (ev2 rfl) rfl (frC_bv _) rfl) ?_
  refine zag (zar rfl rfl rfl) rfl rfl rfl (zas rfl tb24 (ev1 rfl) rfl rfl) ?_
  refine zag (zar rfl rfl rfl) rfl rfl rfl (op_eqr eq24 rfl gd24 tb24 (ev2 rfl) (ev2 rfl)) ?_
  refine zab rfl rfl rfl (zaz rfl (ev1 rfl) (ev3 rfl id)) ?_
  refine zab rfl rfl rfl (zad (.inl rfl) (ev1 rfl)) ?_
  refine zag (zar rfl rfl rfl) rfl rfl rfl (zas rfl tb29 (ev1 rfl) rfl (zao _)) ?_
  refine zag (zar rfl rfl rfl) rfl rfl rfl (zah [] [] [] rfl (ev1 rfl) (ec (ev2 rfl) (ec (evnil 1 (ev1 rfl)) en)) rfl rfl (sit_d _ [] (by simp)) rfl rfl rfl rfl rfl rfl) ?_
  refine zag (zar rfl rfl rfl) rfl rfl rfl (op_bs (ps := [(0, .const (.int .i64 1)), (1, .const (.int .i64 2))]) rfl sl31 zr3 rfl (vc (ev1 rfl) (vc (ev1 rfl) vn)) rfl (by decide) (by decide)) ?_
  refine zag (zar rfl rfl rfl) rfl rfl rfl (zah [] [] [] rfl (ev1 rfl) (ec (ev2 rfl) (ec (ev2 rfl) en)) rfl rfl (equalI _ [1, 2]) rfl rfl rfl rfl rfl rfl) ?_
  refine zab rfl rfl rfl (zaz rfl (ev1 rfl) (ev3 rfl id)) ?_
  refine zab rfl rfl rfl (zad (.inr rfl) (ev1 rfl)) ?_
  refine zae ?_
  refine zau ?_
  refine kend0 (rs1 rfl (rv_t rfl)) rfl ?_
  kernel_rfl
end Go.Proofs.YtnjnhghafjlmbaaGreat
namespace Go.Proofs.YtnjnhghafjlmbaaGreat
set_option linter.unusedVariables false
set_option linter.unusedSimpArgs false
open Go.RowKit
def uF (f : FrM) : FrM := ⟨f.fo, f.bv, 0, fun i => risP f.fo (f.st i)⟩
theorem risF_u {f : FrM} (hf : frB f = true) : risF f = (uF f, 0) := by unfold risF; rw [hf]; rfl
theorem uF_ok {f : FrM} (hf : frB f = true) : frB (uF f) = true := by
  have := risF_ok hf
  rw [risF_u hf] at this
  exact this
theorem sitF_u {f : FrM} (hf : frB f = true) : sitF (uF f) [] = sitF f [] := by
  have := sitL_ris hf
  rw [risF_u hf] at this
  unfold sitF
  rw [uF_ok hf, hf]
  exact this
theorem u1 {f : FrM} (hf : frB f = true) : ((((((uF f).fo : Int) != (f.fo : Int)) || !eqV (uF f).bv f.bv) || (((uF f).pr : Int) != 0)) || (errOr (frB (uF f)) 280 != 0) || !decide (sitF (uF f) [] = sitF f [])) = false := by
  rw [uF_ok hf, sitF_u hf, show eqV (uF f).bv f.bv = true from eqV_refl _]
  simp [uF, errOr]
theorem readyB_u (f : FrM) (v : Vec) : readyB (uF f) v = false := rfl
theorem u2 (f : FrM) (v : Vec) : ((rdyF (uF f) v).2 || decide (0 < ((waiF (uF f) v).length : Int))) = false := by
  rw [rdyF_no (readyB_u f v)]
  have : waiF (uF f) v = [] := by
    unfold waiF
    rw [show decide (0 < (uF f).pr) = false from rfl, Bool.and_false, if_neg (by decide)]
  rw [this]
  rfl
end Go.Proofs.YtnjnhghafjlmbaaGreat
namespace Go.Proofs.YtnjnhghafjlmbaaGreat
set_option linter.unusedVariables false
set_option linter.unusedSimpArgs false
open Go.RowKit
open Go.ChangeShapes Go.WideShapes Go.ChangeAt Go.Joins Go.Deep
theorem fits_prim_i64 {v : Value} (h : (Prim.int .i64).is v) : ∃ a : Int, (-9223372036854775808 ≤ a ∧ a ≤ 9223372036854775807) ∧ v = .int .i64 a := by
  obtain ⟨x, rfl, w⟩ := h
  exact ⟨x, by simpa [Lit.wf, IntKind.min, IntKind.max, IntKind.signed, IntKind.bits] using w, rfl⟩
theorem fits_prim_u64 {v : Value} (h : (Prim.int .u64).is v) : ∃ a : Int, (0 ≤ a ∧ a ≤ 18446744073709551615) ∧ v = .int .u64 a := by
  obtain ⟨x, rfl, w⟩ := h
  exact ⟨x, by simpa [Lit.wf, IntKind.min, IntKind.max, IntKind.signed, IntKind.bits] using w, rfl⟩
theorem fitsP_append : ∀ (a b : List Prim) (cs : List Value), fitsP (a ++ b) cs → ∃ c d, cs = c ++ d ∧ fitsP a c ∧ fitsP b d
  | [], _, cs, h => ⟨[], cs, rfl, trivial, h⟩
  | _ :: _, _, [], h => by cases h
  | p :: a, b, v :: cs, h => by
    obtain ⟨h1, h2⟩ := h
    obtain ⟨c, d, rfl, h3, h4⟩ := fitsP_append a b cs h2
    exact ⟨v :: c, d, rfl, ⟨h1, h3⟩, h4⟩
theorem fitsP_cons {p : Prim} {ps : List Prim} {cs : List Value} (h : fitsP (p :: ps) cs) : ∃ v r, cs = v :: r ∧ p.is v ∧ fitsP ps r := by
  cases cs with
  | nil => cases h
  | cons v r => exact ⟨v, r, rfl, h.1, h.2⟩
theorem fitsP_nil {cs : List Value} (h : fitsP [] cs) : cs = [] := by
  cases cs with
  | nil => rfl
  | cons v r => cases h
theorem fits_nat {v : Value} (h : (Prim.int .u64).is v) : ∃ n : Nat, v = .int .u64 n := by
  obtain ⟨a, w, rfl⟩ := fits_prim_u64 h
  exact ⟨a.toNat, by rw [Int.toNat_of_nonneg w.1]⟩
abbrev k9 : List Prim := [.int .u64, .int .u64, .int .u64, .int .u64, .int .u64, .int .u64, .int .u64, .int .u64, .int .u64]
abbrev kP : List Prim := .bool :: .int .u64 :: .int .u64 :: k9
abbrev kF : List Prim := .int .u64 :: (k9 ++ (.int .u64 :: (kP ++ (kP ++ (kP ++ (kP ++ (kP ++ (kP ++ (kP ++ (kP ++ kP))))))))))
theorem fits_c9 (cs : List Value) (h : fitsP k9 cs) : ∃ v : Vec, True ∧ cs = c9 v := by
  obtain ⟨x0, r, rfl, h0, h⟩ := fitsP_cons h
  obtain ⟨x1, r, rfl, h1, h⟩ := fitsP_cons h
  obtain ⟨x2, r, rfl, h2, h⟩ := fitsP_cons h
  obtain ⟨x3, r, rfl, h3, h⟩ := fitsP_cons h
  obtain ⟨x4, r, rfl, h4, h⟩ := fitsP_cons h
  obtain ⟨x5, r, rfl, h5, h⟩ := fitsP_cons h
  obtain ⟨x6, r, rfl, h6, h⟩ := fitsP_cons h
  obtain ⟨x7, r, rfl, h7, h⟩ := fitsP_cons h
  obtain ⟨x8, r, rfl, h8, h⟩ := fitsP_cons h
  obtain rfl := fitsP_nil h
  obtain ⟨n0, rfl⟩ := fits_nat h0
  obtain ⟨n1, rfl⟩ := fits_nat h1
  obtain ⟨n2, rfl⟩ := fits_nat h2
  obtain ⟨n3, rfl⟩ := fits_nat h3
  obtain ⟨n4, rfl⟩ := fits_nat h4
  obtain ⟨n5, rfl⟩ := fits_nat h5
  obtain ⟨n6, rfl⟩ := fits_nat h6
  obtain ⟨n7, rfl⟩ := fits_nat h7
  obtain ⟨n8, rfl⟩ := fits_nat h8
  exact ⟨fun i => [n0, n1, n2, n3, n4, n5, n6, n7, n8].getD i 0, trivial, rfl⟩
theorem fits_pl (cs : List Value) (h : fitsP kP cs) : ∃ p : Pl, True ∧ cs = plC p := by
  obtain ⟨x0, r, rfl, h0, g1⟩ := fitsP_cons h
  obtain ⟨x1, r, rfl, h1, g2⟩ := fitsP_cons g1
  obtain ⟨x2, r, rfl, h2, g3⟩ := fitsP_cons g2
  obtain ⟨b, rfl⟩ := h0
  obtain ⟨n1, rfl⟩ := fits_nat h1
  obtain ⟨n2, rfl⟩ := fits_nat h2
  obtain ⟨v, _, rfl⟩ := fits_c9 _ g3
  exact ⟨⟨b, n1, n2, v⟩, trivial, rfl⟩
theorem fits_st (cs : List Value) (h : fitsP (kP ++ (kP ++ (kP ++ (kP ++ (kP ++ (kP ++ (kP ++ (kP ++ kP)))))))) cs) : ∃ s : Nat → Pl, True ∧ cs = stC s := by
  obtain ⟨c0, r, rfl, h0, h⟩ := fitsP_append _ _ _ h
  obtain ⟨c1, r, rfl, h1, h⟩ := fitsP_append _ _ _ h
  obtain ⟨c2, r, rfl, h2, h⟩ := fitsP_append _ _ _ h
  obtain ⟨c3, r, rfl, h3, h⟩ := fitsP_append _ _ _ h
  obtain ⟨c4, r, rfl, h4, h⟩ := fitsP_append _ _ _ h
  obtain ⟨c5, r, rfl, h5, h⟩ := fitsP_append _ _ _ h
  obtain ⟨c6, r, rfl, h6, h⟩ := fitsP_append _ _ _ h
  obtain ⟨c7, c8, rfl, h7, h8⟩ := fitsP_append _ _ _ h
  obtain ⟨p0, _, rfl⟩ := fits_pl _ h0
  obtain ⟨p1, _, rfl⟩ := fits_pl _ h1
  obtain ⟨p2, _, rfl⟩ := fits_pl _ h2
  obtain ⟨p3, _, rfl⟩ := fits_pl _ h3
  obtain ⟨p4, _, rfl⟩ := fits_pl _ h4
  obtain ⟨p5, _, rfl⟩ := fits_pl _ h5
  obtain ⟨p6, _, rfl⟩ := fits_pl _ h6
  obtain ⟨p7, _, rfl⟩ := fits_pl _ h7
  obtain ⟨p8, _, rfl⟩ := fits_pl _ h8
  exact ⟨fun i => [p0, p1, p2, p3, p4, p5, p6, p7, p8].getD i zP, trivial, rfl⟩
theorem fits_fr (cs : List Value) (h : fitsP kF cs) : ∃ f : FrM, True ∧ cs = frC f := by
  obtain ⟨x0, r, rfl, h0, g1⟩ := fitsP_cons h
  obtain ⟨c, r, rfl, h1, g2⟩ := fitsP_append _ _ _ g1
  obtain ⟨x2, r, rfl, h2, g3⟩ := fitsP_cons g2
  obtain ⟨n0, rfl⟩ := fits_nat h0
  obtain ⟨v, _, rfl⟩ := fits_c9 _ h1
  obtain ⟨n2, rfl⟩ := fits_nat h2
  obtain ⟨s, _, rfl⟩ := fits_st _ g3
  exact ⟨⟨n0, v, n2, s⟩, trivial, rfl⟩
end Go.Proofs.YtnjnhghafjlmbaaGreat
