/- frontiers that are ready, and folded; the sites that are registered, of some or all; ids, colours, stamps; what operations use; which operations may be. No condition. -/
import Derived.Test.YtnjnhghafjlmbaaGreatQ3
import Derived.Test.YtnjnhghafjlmbaaGreatRows
import Derived.Test.YtnjnhghafjlmbaaGreatProg
import Derived.OpenShut
import Derived.ChangeArms
import Derived.DataReads
import Derived.Below
import Derived.Deep.Slices
import Derived.JoinedOf
import Derived.JoinedAt
import Derived.Lib.SmallJoins
import Derived.Carry
import Derived.ProofKit
import Derived.RowKit3
import Derived.WalkKit
import Derived.Laws.AppendOwn
import Derived.RangeFuncRecord
import Derived.RangeFuncLeaves
import Derived.OrdersIn
import Derived.Deep.MidRow
import Derived.Laws.MakeOwn
import Derived.IntWalk
import Derived.Laws.OwnMore
import Derived.OwnWalk
import Derived.Recover
import Derived.RangeFuncIn
import Derived.Laws.StructEq
import Derived.LaidMore
import Derived.Handed
import Derived.LaidHandle
import Derived.Stop.Joined
import Derived.Laws.IdiomCopy
import Derived.Laws.Pointers
import Derived.Laws.LoneSync
namespace Go.Proofs.YtnjnhghafjlmbaaGreat
set_option linter.unusedVariables false
set_option linter.unusedSimpArgs false
open Go.RowKit
set_option maxRecDepth 4000 in
set_option maxHeartbeats 1000000 in
theorem ready1_idle : DDef Tryz.prog 49 [] [] none none [] := by
  refine ddef_go1 (dr := .tup []) (t := 0) (N := 2) 0 (by kernel_rfl) Tryz.func49 rfl rfl rfl (by simp only [fr0, Nat.zero_add, Nat.reduceAdd]; exact rfl) rfl rfl rfl rfl rfl fun s0 hs0 => ?_
  refine zab rfl rfl rfl (zah [] [] [] rfl (ev1 rfl) (ec (ev1 rfl) en) rfl rfl (ftold_no) rfl rfl rfl rfl rfl rfl) ?_
  refine zae ?_
  refine kend0 (res_none rfl) rfl ?_
  rfl
set_option maxRecDepth 4000 in
set_option maxHeartbeats 1000000 in
theorem ready1_caught (n : Int) : DDef Tryz.prog 49 [] [] (some (.ifc 126 (.val (.agg #[.int .i64 n])))) none [] := by
  refine ddef_go1 (dr := .tup []) (t := 0) (N := 2) 0 (by kernel_rfl) Tryz.func49 rfl rfl rfl (by simp only [fr0, Nat.zero_add, Nat.reduceAdd]; exact rfl) rfl rfl rfl rfl rfl fun s0 hs0 => ?_
  refine zab rfl rfl rfl (zah [] [] [] rfl (ev1 rfl) (ec (ev1 rfl) en) rfl rfl (ftold_w n) rfl rfl rfl rfl rfl rfl) ?_
  refine zae ?_
  refine kend0 (res_none rfl) rfl ?_
  rfl
set_option maxRecDepth 4000 in
set_option maxHeartbeats 1000000 in
theorem waits1_idle : DDef Tryz.prog 57 [] [] none none [] := by
  refine ddef_go1 (dr := .tup []) (t := 0) (N := 2) 0 (by kernel_rfl) Tryz.func57 rfl rfl rfl (by simp only [fr0, Nat.zero_add, Nat.reduceAdd]; exact rfl) rfl rfl rfl rfl rfl fun s0 hs0 => ?_
  refine zab rfl rfl rfl (zah [] [] [] rfl (ev1 rfl) (ec (ev1 rfl) en) rfl rfl (ftold_no) rfl rfl rfl rfl rfl rfl) ?_
  refine zae ?_
  refine kend0 (res_none rfl) rfl ?_
  rfl
set_option maxRecDepth 4000 in
set_option maxHeartbeats 1000000 in
theorem waits1_caught (n : Int) : DDef Tryz.prog 57 [] [] (some (.ifc 126 (.val (.agg #[.int .i64 n])))) none [] := by
  refine ddef_go1 (dr := .tup []) (t := 0) (N := 2) 0 (by kernel_rfl) Tryz.func57 rfl rfl rfl (by simp only [fr0, Nat.zero_add, Nat.reduceAdd]; exact rfl) rfl rfl rfl rfl rfl fun s0 hs0 => ?_
  refine zab rfl rfl rfl (zah [] [] [] rfl (ev1 rfl) (ec (ev1 rfl) en) rfl rfl (ftold_w n) rfl rfl rfl rfl rfl rfl) ?_
  refine zae ?_
  refine kend0 (res_none rfl) rfl ?_
  rfl
set_option maxRecDepth 4000 in
set_option maxHeartbeats 1000000 in
theorem sites1_idle : DDef Tryz.prog 62 [] [] none none [] := by
  refine ddef_go1 (dr := .tup []) (t := 0) (N := 2) 0 (by kernel_rfl) Tryz.func62 rfl rfl rfl (by simp only [fr0, Nat.zero_add, Nat.reduceAdd]; exact rfl) rfl rfl rfl rfl rfl fun s0 hs0 => ?_
  refine zab rfl rfl rfl (zah [] [] [] rfl (ev1 rfl) (ec (ev1 rfl) en) rfl rfl (ftold_no) rfl rfl rfl rfl rfl rfl) ?_
  refine zae ?_
  refine kend0 (res_none rfl) rfl ?_
  rfl
set_option maxRecDepth 4000 in
set_option maxHeartbeats 1000000 in
theorem sites1_caught (n : Int) : DDef Tryz.prog 62 [] [] (some (.ifc 126 (.val (.agg #[.int .i64 n])))) none [] := by
  refine ddef_go1 (dr := .tup []) (t := 0) (N := 2) 0 (by kernel_rfl) Tryz.func62 rfl rfl rfl (by simp only [fr0, Nat.zero_add, Nat.reduceAdd]; exact rfl) rfl rfl rfl rfl rfl fun s0 hs0 => ?_
  refine zab rfl rfl rfl (zah [] [] [] rfl (ev1 rfl) (ec (ev1 rfl) en) rfl rfl (ftold_w n) rfl rfl rfl rfl rfl rfl) ?_
  refine zae ?_
  refine kend0 (res_none rfl) rfl ?_
  rfl
set_option maxRecDepth 4000 in
set_option maxHeartbeats 1000000 in
theorem rdy_no (f : FrM) (v : Vec) (hf : frB f = false) : DFun Tryz.prog 14 [.val (.agg (frC f).toArray), .val (.agg (c9 v).toArray)] [] (.tup [.val (.agg (c9 z9).toArray), .val (.bool false)]) [] := by
  refine dcalls_body (N := 29) 0 (by kernel_rfl) Tryz.func14 rfl rfl rfl (by simp only [fr0, Nat.zero_add, Nat.reduceAdd]; exact rfl) rfl fun s0 hs0 => ?_
  refine dbody_seq rfl hs0 ?_
  refine zaj 3 (by simp only [holes, List.cons_append, List.nil_append]; exact rfl) ?_
  refine zac ?_
  refine zam rfl rfl rfl (op_boxa 0 rfl (ev1 rfl) rfl) (by simp only [upd, za, zaa]; exact rfl) ?_
  refine zam rfl rfl rfl (op_boxa 1 rfl (ev1 rfl) rfl) (by simp only [upd, za, zaa]; exact rfl) ?_
  refine zam rfl rfl rfl (zaq 2 rfl zr24 rfl) (by simp only [upd, za, zaa]; exact rfl) ?_
  refine zab rfl rfl rfl (zad (.inr rfl) (ev1 rfl)) ?_
  refine zae ?_
  refine dbody_defer (l0 := []) rfl rfl rfl rfl rfl hs0 ?_
  refine zae ⟨_, _, _, 3, ev1 rfl, Nat.le_trans hs0 (by decide), rfl, ?_⟩
  have hs1 : s0.M.length ≤ 3 := Nat.le_trans hs0 (by decide)
  refine dbody_end rfl hs0 ?_
  refine zaf ?_
  refine zac ?_
  refine zab rfl rfl rfl (zas rfl tb29 (ev1 rfl) rfl (zao _)) ?_
  refine walk_p rfl (dop_callP [] [] [] rfl (ev1 rfl) (ec (ev1 rfl) en) rfl rfl (chOf_no f hf) rfl rfl rfl rfl rfl rfl) rfl ?_
  refine kdef (dturn_caught [] [] rfl rfl rfl (ready1_caught _) rfl rfl rfl rfl rfl) ?_
  refine kend0 (rs2 rfl (rv_w tb24 rfl rfl rfl) (rv_t rfl)) rfl ?_
  rfl
set_option maxRecDepth 4000 in
set_option maxHeartbeats 1000000 in
theorem rdy_arg (f : FrM) (v : Vec) (hf : frB f = true) (hv : vB v = false) : DFun Tryz.prog 14 [.val (.agg (frC f).toArray), .val (.agg (c9 v).toArray)] [] (.tup [.val (.agg (c9 z9).toArray), .val (.bool false)]) [] := by
  refine dcalls_body (N := 29) 0 (by kernel_rfl) Tryz.func14 rfl rfl rfl (by simp only [fr0, Nat.zero_add, Nat.reduceAdd]; exact rfl) rfl fun s0 hs0 => ?_
  refine dbody_seq rfl hs0 ?_
  refine zaj 3 (by simp only [holes, List.cons_append, List.nil_append]; exact rfl) ?_
  refine zac ?_
  refine zam rfl rfl rfl (op_boxa 0 rfl (ev1 rfl) rfl) (by simp only [upd, za, zaa]; exact rfl) ?_
  refine zam rfl rfl rfl (op_boxa 1 rfl (ev1 rfl) rfl) (by simp only [upd, za, zaa]; exact rfl) ?_
  refine zam rfl rfl rfl (zaq 2 rfl zr24 rfl) (by simp only [upd, za, zaa]; exact rfl) ?_
  refine zab rfl rfl rfl (zad (.inr rfl) (ev1 rfl)) ?_
  refine zae ?_
  refine dbody_defer (l0 := []) rfl rfl rfl rfl rfl hs0 ?_
  refine zae ⟨_, _, _, 3, ev1 rfl, Nat.le_trans hs0 (by decide), rfl, ?_⟩
  have hs1 : s0.M.length ≤ 3 := Nat.le_trans hs0 (by decide)
  refine dbody_end rfl hs0 ?_
  refine zaf ?_
  refine zaj 1 (by simp only [holes, List.cons_append, List.nil_append]; exact rfl) ?_
  refine zac ?_
  refine zab rfl rfl rfl (zas rfl tb29 (ev1 rfl) rfl (zao _)) ?_
  refine zam rfl rfl rfl (zah [] [] [3] rfl (ev1 rfl) (ec (ev1 rfl) en) rfl rfl (chOf_ok f hf) rfl rfl rfl rfl rfl rfl) (by simp only [upd, za, zaa]; exact rfl) ?_
  refine zab rfl rfl rfl (zad (.inr rfl) (ev1 rfl)) ?_
  refine zae ?_
  refine zaf ?_
  refine zac ?_
  refine zab rfl rfl rfl (zas rfl tb24 (ev1 rfl) rfl rfl) ?_
  refine zab rfl rfl rfl (zah [] [] [] rfl (ev1 rfl) (ec (ev1 rfl) en) rfl rfl (vCheck_d _) rfl rfl rfl rfl rfl rfl) ?_
  refine zab rfl rfl rfl (zb rfl (ev1 rfl) (ev1 rfl)) ?_
  refine walk_p rfl (dop_callP [] [] [] rfl (ev1 rfl) (ec (ev1 rfl) (ec (ev1 rfl) en)) rfl rfl (need_no _ _ (by rw [errz _ (by decide), hv])) rfl rfl rfl rfl rfl rfl) rfl ?_
  refine kdef (dturn_caught [] [] rfl rfl rfl (ready1_caught _) rfl rfl rfl rfl rfl) ?_
  refine kend0 (rs2 rfl (rv_w tb24 rfl rfl rfl) (rv_t rfl)) rfl ?_
  rfl
set_option maxRecDepth 4000 in
set_option maxHeartbeats 1000000 in
theorem rdy_0 (f : FrM) (v : Vec) (hf : frB f = true) (hv : vB v = true) (hp : f.pr = 0) : DFun Tryz.prog 14 [.val (.agg (frC f).toArray), .val (.agg (c9 v).toArray)] [] (.tup [.val (.agg (c9 z9).toArray), .val (.bool false)]) [] := by
  refine dcalls_body (N := 29) 0 (by kernel_rfl) Tryz.func14 rfl rfl rfl (by simp only [fr0, Nat.zero_add, Nat.reduceAdd]; exact rfl) rfl fun s0 hs0 => ?_
  refine dbody_seq rfl hs0 ?_
  refine zaj 3 (by simp only [holes, List.cons_append, List.nil_append]; exact rfl) ?_
  refine zac ?_
  refine zam rfl rfl rfl (op_boxa 0 rfl (ev1 rfl) rfl) (by simp only [upd, za, zaa]; exact rfl) ?_
  refine zam rfl rfl rfl (op_boxa 1 rfl (ev1 rfl) rfl) (by simp only [upd, za, zaa]; exact rfl) ?_
  refine zam rfl rfl rfl (zaq 2 rfl zr24 rfl) (by simp only [upd, za, zaa]; exact rfl) ?_
  refine zab rfl rfl rfl (zad (.inr rfl) (ev1 rfl)) ?_
  refine zae ?_
  refine dbody_defer (l0 := []) rfl rfl rfl rfl rfl hs0 ?_
  refine zae ⟨_, _, _, 3, ev1 rfl, Nat.le_trans hs0 (by decide), rfl, ?_⟩
  have hs1 : s0.M.length ≤ 3 := Nat.le_trans hs0 (by decide)
  refine dbody_end rfl hs0 ?_
  refine zaf ?_
  refine zaj 1 (by simp only [holes, List.cons_append, List.nil_append]; exact rfl) ?_
  refine zac ?_
  refine zab rfl rfl rfl (zas rfl tb29 (ev1 rfl) rfl (zao _)) ?_
  refine zam rfl rfl rfl (zah [] [] [3] rfl (ev1 rfl) (ec (ev1 rfl) en) rfl rfl (chOf_ok f hf) rfl rfl rfl rfl rfl rfl) (by simp only [upd, za, zaa]; exact rfl) ?_
  refine zab rfl rfl rfl (zad (.inr rfl) (ev1 rfl)) ?_
  refine zae ?_
  refine zaf ?_
  refine zac ?_
  refine zab rfl rfl rfl (zas rfl tb24 (ev1 rfl) rfl rfl) ?_
  refine zab rfl rfl rfl (zah [] [] [] rfl (ev1 rfl) (ec (ev1 rfl) en) rfl rfl (vCheck_d _) rfl rfl rfl rfl rfl rfl) ?_
  refine zab rfl rfl rfl (zb rfl (ev1 rfl) (ev1 rfl)) ?_
  refine zab rfl rfl rfl (zah [] [] [] rfl (ev1 rfl) (ec (ev1 rfl) (ec (ev1 rfl) en)) rfl rfl (need_ok _ _ (by rw [errz _ (by decide), hv])) rfl rfl rfl rfl rfl rfl) ?_
  refine zae ?_
  refine zaf ?_
  refine zaf ?_
  refine zac ?_
  refine zab rfl rfl rfl (zad (.inl rfl) (ev1 rfl)) ?_
  refine zab rfl rfl rfl (op_nc rfl (ev1 rfl) (fun s v h => by cases h; exact ⟨_, rfl⟩)) ?_
  refine zab rfl rfl rfl (zap rfl fo101_0 (ev1 rfl)) ?_
  refine zab rfl rfl rfl (zap rfl fo29_2 (ev1 rfl)) ?_
  refine zab rfl rfl rfl (op_ldo rfl tb22 (ev1 rfl) rfl (frC_pr _)) ?_
  refine zab rfl rfl rfl ((zb rfl (ev1 rfl) (ev1 rfl)).cast (d' := .val (.bool true)) (by simp [hp])) ?_
  refine zab rfl rfl rfl (zad (.inl rfl) (ev1 rfl)) ?_
  refine zag (zan (b := true) rfl rfl rfl) rfl rfl rfl (zal (d := .junk)) ?_
  refine zag (zan (b := true) rfl rfl rfl) rfl rfl rfl (zal (d := .junk)) ?_
  refine zag (zan (b := true) rfl rfl rfl) rfl rfl rfl (zal (d := .junk)) ?_
  refine zag (zan (b := true) rfl rfl rfl) rfl rfl rfl (zal (d := .junk)) ?_
  refine zag (zan (b := true) rfl rfl rfl) rfl rfl rfl (zal (d := .val (.bool false))) ?_
  refine zab rfl rfl rfl (op_or rfl (ev1 rfl) (ev3 rfl id)) ?_
  refine zae ?_
  refine dwp_if_t rfl (rfl) ?_
  refine zaf ?_
  refine zac ?_
  refine zab rfl rfl rfl (op_build0a rfl ar24 zr24) ?_
  refine zax rfl rfl (op_stwa rfl tb24 (ev1 rfl) (ev1 rfl) rfl rfl rfl rfl) (by simp only [upd, za, zaa]; exact rfl) ?_
  refine zab rfl rfl rfl (zad (.inr rfl) (ev1 rfl)) ?_
  refine zae ?_
  refine zau ?_
  refine kdef (dturn_idle [] [] rfl rfl (ready1_idle) rfl rfl rfl rfl rfl) ?_
  refine kend0 (rs2 rfl (rv_w tb24 rfl rfl rfl) (rv_t rfl)) rfl ?_
  rfl
set_option maxRecDepth 4000 in
set_option maxHeartbeats 1000000 in
theorem rdy_w (f : FrM) (v : Vec) (hf : frB f = true) (hv : vB v = true) (hp : ¬ f.pr = 0) (hw : (waitL f v).isEmpty = false) : DFun Tryz.prog 14 [.val (.agg (frC f).toArray), .val (.agg (c9 v).toArray)] [] (.tup [.val (.agg (c9 z9).toArray), .val (.bool false)]) [] := by
  have hl : 0 < (waitL f v).length := by
    cases h : waitL f v with
    | nil => rw [h] at hw; cases hw
    | cons a l => simp
  refine dcalls_body (N := 29) 0 (by kernel_rfl) Tryz.func14 rfl rfl rfl (by simp only [fr0, Nat.zero_add, Nat.reduceAdd]; exact rfl) rfl fun s0 hs0 => ?_
  refine dbody_seq rfl hs0 ?_
  refine zaj 3 (by simp only [holes, List.cons_append, List.nil_append]; exact rfl) ?_
  refine zac ?_
  refine zam rfl rfl rfl (op_boxa 0 rfl (ev1 rfl) rfl) (by simp only [upd, za, zaa]; exact rfl) ?_
  refine zam rfl rfl rfl (op_boxa 1 rfl (ev1 rfl) rfl) (by simp only [upd, za, zaa]; exact rfl) ?_
  refine zam rfl rfl rfl (zaq 2 rfl zr24 rfl) (by simp only [upd, za, zaa]; exact rfl) ?_
  refine zab rfl rfl rfl (zad (.inr rfl) (ev1 rfl)) ?_
  refine zae ?_
  refine dbody_defer (l0 := []) rfl rfl rfl rfl rfl hs0 ?_
  refine zae ⟨_, _, _, 3, ev1 rfl, Nat.le_trans hs0 (by decide), rfl, ?_⟩
  have hs1 : s0.M.length ≤ 3 := Nat.le_trans hs0 (by decide)
  refine dbody_end rfl hs0 ?_
  refine zaf ?_
  refine zaj 1 (by simp only [holes, List.cons_append, List.nil_append]; exact rfl) ?_
  refine zac ?_
  refine zab rfl rfl rfl (zas rfl tb29 (ev1 rfl) rfl (zao _)) ?_
  refine zam rfl rfl rfl (zah [] [] [3] rfl (ev1 rfl) (ec (ev1 rfl) en) rfl rfl (chOf_ok f hf) rfl rfl rfl rfl rfl rfl) (by simp only [upd, za, zaa]; exact rfl) ?_
  refine zab rfl rfl rfl (zad (.inr rfl) (ev1 rfl)) ?_
  refine zae ?_
  refine zaf ?_
  refine zac ?_
  refine zab rfl rfl rfl (zas rfl tb24 (ev1 rfl) rfl rfl) ?_
  refine zab rfl rfl rfl (zah [] [] [] rfl (ev1 rfl) (ec (ev1 rfl) en) rfl rfl (vCheck_d _) rfl rfl rfl rfl rfl rfl) ?_
  refine zab rfl rfl rfl (zb rfl (ev1 rfl) (ev1 rfl)) ?_
  refine zab rfl rfl rfl (zah [] [] [] rfl (ev1 rfl) (ec (ev1 rfl) (ec (ev1 rfl) en)) rfl rfl (need_ok _ _ (by rw [errz _ (by decide), hv])) rfl rfl rfl rfl rfl rfl) ?_
  refine zae ?_
  refine zaf ?_
  refine zaf ?_
  refine zac ?_
  refine zab rfl rfl rfl (zad (.inl rfl) (ev1 rfl)) ?_
  refine zab rfl rfl rfl (op_nc rfl (ev1 rfl) (fun s v h => by cases h; exact ⟨_, rfl⟩)) ?_
  refine zab rfl rfl rfl (zap rfl fo101_0 (ev1 rfl)) ?_
  refine zab rfl rfl rfl (zap rfl fo29_2 (ev1 rfl)) ?_
  refine zab rfl rfl rfl (op_ldo rfl tb22 (ev1 rfl) rfl (frC_pr _)) ?_
  refine zab rfl rfl rfl ((zb rfl (ev1 rfl) (ev1 rfl)).cast (d' := .val (.bool false)) (by simp; omega)) ?_
  refine zab rfl rfl rfl (zad (.inl rfl) (ev1 rfl)) ?_
  refine zai (zan (b := false) rfl rfl rfl) rfl rfl rfl (zad (.inl rfl) (ev1 rfl)) (by simp only [upd, za, zaa]; exact rfl) ?_
  refine zai (zan (b := false) rfl rfl rfl) rfl rfl rfl (zas rfl tb24 (ev1 rfl) rfl rfl) (by simp only [upd, za, zaa]; exact rfl) ?_
  refine zai (zan (b := false) rfl rfl rfl) rfl rfl rfl (zah [3] [] [] rfl (ev1 rfl) (ec (ev2 rfl) (ec (ev2 rfl) en)) rfl rfl (waits_d f v hf hp) rfl rfl rfl rfl rfl rfl) (by simp only [upd, za, zaa]; exact rfl) ?_
  refine zai (zan (b := false) rfl rfl rfl) rfl rfl rfl (op_len rfl sl31 (ev2 rfl)) (by simp only [upd, za, zaa]; exact rfl) ?_
  refine zai (zan (b := false) rfl rfl rfl) rfl rfl rfl (op_gtr rfl (ev2 rfl) (ev1 rfl)) (by simp only [upd, za, zaa]; exact rfl) ?_
  refine zab rfl rfl rfl (op_or rfl (ev1 rfl) (ev3 rfl (fun _ => rfl))) ?_
  refine zae ?_
  refine dwp_if_t rfl (by simp; omega) ?_
  refine zaf ?_
  refine zac ?_
  refine zab rfl rfl rfl (op_build0a rfl ar24 zr24) ?_
  refine zax rfl rfl (op_stwa rfl tb24 (ev1 rfl) (ev1 rfl) rfl rfl rfl rfl) (by simp only [upd, za, zaa]; exact rfl) ?_
  refine zab rfl rfl rfl (zad (.inr rfl) (ev1 rfl)) ?_
  refine zae ?_
  refine zau ?_
  refine kdef (dturn_idle [] [] rfl rfl (ready1_idle) rfl rfl rfl rfl rfl) ?_
  refine kend0 (rs2 rfl (rv_w tb24 rfl rfl rfl) (rv_t rfl)) rfl ?_
  rfl
set_option maxRecDepth 4000 in
set_option maxHeartbeats 1000000 in
theorem rdy_ok (f : FrM) (v : Vec) (hf : frB f = true) (hv : vB v = true) (hp : ¬ f.pr = 0) (hw : (waitL f v).isEmpty = true) : DFun Tryz.prog 14 [.val (.agg (frC f).toArray), .val (.agg (c9 v).toArray)] [] (.tup [.val (.agg (c9 (askV f)).toArray), .val (.bool true)]) [] := by
  have hl : waitL f v = [] := List.isEmpty_iff.1 hw
  refine dcalls_body (N := 29) 0 (by kernel_rfl) Tryz.func14 rfl rfl rfl (by simp only [fr0, Nat.zero_add, Nat.reduceAdd]; exact rfl) rfl fun s0 hs0 => ?_
  refine dbody_seq rfl hs0 ?_
  refine zaj 3 (by simp only [holes, List.cons_append, List.nil_append]; exact rfl) ?_
  refine zac ?_
  refine zam rfl rfl rfl (op_boxa 0 rfl (ev1 rfl) rfl) (by simp only [upd, za, zaa]; exact rfl) ?_
  refine zam rfl rfl rfl (op_boxa 1 rfl (ev1 rfl) rfl) (by simp only [upd, za, zaa]; exact rfl) ?_
  refine zam rfl rfl rfl (zaq 2 rfl zr24 rfl) (by simp only [upd, za, zaa]; exact rfl) ?_
  refine zab rfl rfl rfl (zad (.inr rfl) (ev1 rfl)) ?_
  refine zae ?_
  refine dbody_defer (l0 := []) rfl rfl rfl rfl rfl hs0 ?_
  refine zae ⟨_, _, _, 3, ev1 rfl, Nat.le_trans hs0 (by decide), rfl, ?_⟩
  have hs1 : s0.M.length ≤ 3 := Nat.le_trans hs0 (by decide)
  refine dbody_end rfl hs0 ?_
  refine zaf ?_
  refine zaj 1 (by simp only [holes, List.cons_append, List.nil_append]; exact rfl) ?_
  refine zac ?_
  refine zab rfl rfl rfl (zas rfl tb29 (ev1 rfl) rfl (zao _)) ?_
  refine zam rfl rfl rfl (zah [] [] [3] rfl (ev1 rfl) (ec (ev1 rfl) en) rfl rfl (chOf_ok f hf) rfl rfl rfl rfl rfl rfl) (by simp only [upd, za, zaa]; exact rfl) ?_
  refine zab rfl rfl rfl (zad (.inr rfl) (ev1 rfl)) ?_
  refine zae ?_
  refine zaf ?_
  refine zac ?_
  refine zab rfl rfl rfl (zas rfl tb24 (ev1 rfl) rfl rfl) ?_
  refine zab rfl rfl rfl (zah [] [] [] rfl (ev1 rfl) (ec (ev1 rfl) en) rfl rfl (vCheck_d _) rfl rfl rfl rfl rfl rfl) ?_
  refine zab rfl rfl rfl (zb rfl (ev1 rfl) (ev1 rfl)) ?_
  refine zab rfl rfl rfl (zah [] [] [] rfl (ev1 rfl) (ec (ev1 rfl) (ec (ev1 rfl) en)) rfl rfl (need_ok _ _ (by rw [errz _ (by decide), hv])) rfl rfl rfl rfl rfl rfl) ?_
  refine zae ?_
  refine zaf ?_
  refine zaf ?_
  refine zac ?_
  refine zab rfl rfl rfl (zad (.inl rfl) (ev1 rfl)) ?_
  refine zab rfl rfl rfl (op_nc rfl (ev1 rfl) (fun s v h => by cases h; exact ⟨_, rfl⟩)) ?_
  refine zab rfl rfl rfl (zap rfl fo101_0 (ev1 rfl)) ?_
  refine zab rfl rfl rfl (zap rfl fo29_2 (ev1 rfl)) ?_
  refine zab rfl rfl rfl (op_ldo rfl tb22 (ev1 rfl) rfl (frC_pr _)) ?_
  refine zab rfl rfl rfl ((zb rfl (ev1 rfl) (ev1 rfl)).cast (d' := .val (.bool false)) (by simp; omega)) ?_
  refine zab rfl rfl rfl (zad (.inl rfl) (ev1 rfl)) ?_
  refine zai (zan (b := false) rfl rfl rfl) rfl rfl rfl (zad (.inl rfl) (ev1 rfl)) (by simp only [upd, za, zaa]; exact rfl) ?_
  refine zai (zan (b := false) rfl rfl rfl) rfl rfl rfl (zas rfl tb24 (ev1 rfl) rfl rfl) (by simp only [upd, za, zaa]; exact rfl) ?_
  refine zai (zan (b := false) rfl rfl rfl) rfl rfl rfl (zah [3] [] [] rfl (ev1 rfl) (ec (ev2 rfl) (ec (ev2 rfl) en)) rfl rfl (waits_d f v hf hp) rfl rfl rfl rfl rfl rfl) (by simp only [upd, za, zaa]; exact rfl) ?_
  refine zai (zan (b := false) rfl rfl rfl) rfl rfl rfl (op_len rfl sl31 (ev2 rfl)) (by simp only [upd, za, zaa]; exact rfl) ?_
  refine zai (zan (b := false) rfl rfl rfl) rfl rfl rfl (op_gtr rfl (ev2 rfl) (ev1 rfl)) (by simp only [upd, za, zaa]; exact rfl) ?_
  refine zab rfl rfl rfl (op_or rfl (ev1 rfl) (ev3 rfl (fun _ => rfl))) ?_
  refine zae ?_
  refine dwp_if_f rfl (by rw [hl]; rfl) ?_
  refine zak ?_
  refine zaf ?_
  refine zac ?_
  refine zab rfl rfl rfl (zad (.inl rfl) (ev1 rfl)) ?_
  refine zam rfl rfl rfl (zah [3] [] [] rfl (ev1 rfl) (ec (ev1 rfl) en) rfl rfl (asked_d _ (by assumption)) rfl rfl rfl rfl rfl rfl) (by simp only [upd, za, zaa]; exact rfl) ?_
  refine zax rfl rfl (op_stwa rfl tb24 (ev1 rfl) (ev1 rfl) rfl rfl rfl rfl) (by simp only [upd, za, zaa]; exact rfl) ?_
  refine zab rfl rfl rfl (zad (.inr rfl) (ev1 rfl)) ?_
  refine zae ?_
  refine zau ?_
  refine kdef (dturn_idle [] [] rfl rfl (ready1_idle) rfl rfl rfl rfl rfl) ?_
  refine kend0 (rs2 rfl (rv_w tb24 rfl rfl rfl) (rv_t rfl)) rfl ?_
  rfl
theorem rdy_d (f : FrM) (v : Vec) : DFun Tryz.prog 14 [.val (.agg (frC f).toArray), .val (.agg (c9 v).toArray)] [] (.tup [.val (.agg (c9 (rdyF f v).1).toArray), .val (.bool (rdyF f v).2)]) [] := by
  unfold rdyF readyB
  cases hf : frB f
  · exact rdy_no f v hf
  · cases hv : vB v
    · exact rdy_arg f v hf hv
    · by_cases hp : f.pr = 0
      · rw [if_neg (by rw [hp]; simp)]; exact rdy_0 f v hf hv hp
      · cases hw : (waitL f v).isEmpty
        · rw [if_neg (by simp)]; exact rdy_w f v hf hv hp hw
        · rw [if_pos (by simp; omega)]; exact rdy_ok f v hf hv hp hw
theorem frC_wfo (f : FrM) (x : Nat) : (frC f).set 0 (.int .u64 x) = frC { f with fo := x } := rfl
theorem frC_wbv (f : FrM) (v : Vec) : setL (frC f) 1 (c9 v) = frC { f with bv := v } := rfl
theorem frC_wpr (f : FrM) : (frC f).set 10 (.int .u64 0) = frC { f with pr := 0 } := rfl
theorem rdyF_yes {f : FrM} {v : Vec} (hf : frB f = true) (hv : vB v = true) (hr : readyB f v = true) : rdyF f v = (askV f, true) := by
  unfold rdyF; rw [hf, hv, hr]; rfl
theorem rdyF_no {f : FrM} {v : Vec} (h : readyB f v = false) : rdyF f v = (z9, false) := by
  unfold rdyF; rw [h, Bool.and_false]; rfl
set_option maxRecDepth 4000 in
set_option maxHeartbeats 1000000 in
theorem fol_no (f : FrM) (v : Vec) (hf : frB f = false) : DFun Tryz.prog 15 [.val (.agg (frC f).toArray), .val (.agg (c9 v).toArray)] [] (.tup [.val (.agg (frC zF).toArray), .val (.int .i64 280)]) [] := by
  refine dcalls_body (N := 46) 0 (by kernel_rfl) Tryz.func15 rfl rfl rfl (by simp only [fr0, Nat.zero_add, Nat.reduceAdd]; exact rfl) rfl fun s0 hs0 => ?_
  refine dbody_seq rfl hs0 ?_
  refine zaj 4 (by simp only [holes, List.cons_append, List.nil_append]; exact rfl) ?_
  refine zac ?_
  refine zam rfl rfl rfl (op_boxa 0 rfl (ev1 rfl) rfl) (by simp only [upd, za, zaa]; exact rfl) ?_
  refine zam rfl rfl rfl (op_boxa 1 rfl (ev1 rfl) rfl) (by simp only [upd, za, zaa]; exact rfl) ?_
  refine zam rfl rfl rfl (zaq 2 rfl zr29 rfl) (by simp only [upd, za, zaa]; exact rfl) ?_
  refine zam rfl rfl rfl (zaq 3 rfl zr34 rfl) (by simp only [upd, za, zaa]; exact rfl) ?_
  refine zae ?_
  refine dbody_defer (l0 := [_]) rfl rfl rfl rfl rfl hs0 ?_
  refine zab rfl rfl rfl (op_mkf rfl en (ec (ev1 rfl) en)) ?_
  refine zae ⟨_, _, _, 4, ev1 rfl, Nat.le_trans hs0 (by decide), rfl, ?_⟩
  have hs1 : s0.M.length ≤ 4 := Nat.le_trans hs0 (by decide)
  refine dbody_end rfl hs0 ?_
  refine zaf ?_
  refine zac ?_
  refine zab rfl rfl rfl (zas rfl tb29 (ev1 rfl) rfl (zao _)) ?_
  refine walk_p rfl (dop_callP [] [] [] rfl (ev1 rfl) (ec (ev1 rfl) en) rfl rfl (chOf_no f hf) rfl rfl rfl rfl rfl rfl) rfl ?_
  refine kdef (dturn_caught [3] [] rfl rfl rfl (fold1_caught _ _) rfl rfl rfl rfl rfl) ?_
  refine kend0 (rs2 rfl (rv_w tb29 rfl rfl (zao _)) (rv_1 tb34 rfl rfl rfl)) rfl ?_
  rfl
set_option maxRecDepth 4000 in
set_option maxHeartbeats 1000000 in
theorem fol_arg (f : FrM) (v : Vec) (hf : frB f = true) (hv : vB v = false) : DFun Tryz.prog 15 [.val (.agg (frC f).toArray), .val (.agg (c9 v).toArray)] [] (.tup [.val (.agg (frC zF).toArray), .val (.int .i64 2)]) [] := by
  refine dcalls_body (N := 46) 0 (by kernel_rfl) Tryz.func15 rfl rfl rfl (by simp only [fr0, Nat.zero_add, Nat.reduceAdd]; exact rfl) rfl fun s0 hs0 => ?_
  refine dbody_seq rfl hs0 ?_
  refine zaj 4 (by simp only [holes, List.cons_append, List.nil_append]; exact rfl) ?_
  refine zac ?_
  refine zam rfl rfl rfl (op_boxa 0 rfl (ev1 rfl) rfl) (by simp only [upd, za, zaa]; exact rfl) ?_
  refine zam rfl rfl rfl (op_boxa 1 rfl (ev1 rfl) rfl) (by simp only [upd, za, zaa]; exact rfl) ?_
  refine zam rfl rfl rfl (zaq 2 rfl zr29 rfl) (by simp only [upd, za, zaa]; exact rfl) ?_
  refine zam rfl rfl rfl (zaq 3 rfl zr34 rfl) (by simp only [upd, za, zaa]; exact rfl) ?_
  refine zae ?_
  refine dbody_defer (l0 := [_]) rfl rfl rfl rfl rfl hs0 ?_
  refine zab rfl rfl rfl (op_mkf rfl en (ec (ev1 rfl) en)) ?_
  refine zae ⟨_, _, _, 4, ev1 rfl, Nat.le_trans hs0 (by decide), rfl, ?_⟩
  have hs1 : s0.M.length ≤ 4 := Nat.le_trans hs0 (by decide)
  refine dbody_end rfl hs0 ?_
  refine zaf ?_
  refine zaj 1 (by simp only [holes, List.cons_append, List.nil_append]; exact rfl) ?_
  refine zac ?_
  refine zab rfl rfl rfl (zas rfl tb29 (ev1 rfl) rfl (zao _)) ?_
  refine zam rfl rfl rfl (zah [] [] [4] rfl (ev1 rfl) (ec (ev1 rfl) en) rfl rfl (chOf_ok f hf) rfl rfl rfl rfl rfl rfl) (by simp only [upd, za, zaa]; exact rfl) ?_
  refine zab rfl rfl rfl (zad (.inr rfl) (ev1 rfl)) ?_
  refine zae ?_
  refine zaf ?_
  refine zac ?_
  refine zab rfl rfl rfl (zas rfl tb24 (ev1 rfl) rfl rfl) ?_
  refine zab rfl rfl rfl (zah [] [] [] rfl (ev1 rfl) (ec (ev1 rfl) en) rfl rfl (vCheck_d _) rfl rfl rfl rfl rfl rfl) ?_
  refine zab rfl rfl rfl (zb rfl (ev1 rfl) (ev1 rfl)) ?_
  refine walk_p rfl (dop_callP [] [] [] rfl (ev1 rfl) (ec (ev1 rfl) (ec (ev1 rfl) en)) rfl rfl (need_no _ _ (by rw [errz _ (by decide), hv])) rfl rfl rfl rfl rfl rfl) rfl ?_
  refine kdef (dturn_caught [3] [] rfl rfl rfl (fold1_caught _ _) rfl rfl rfl rfl rfl) ?_
  refine kend0 (rs2 rfl (rv_w tb29 rfl rfl (zao _)) (rv_1 tb34 rfl rfl rfl)) rfl ?_
  rfl
set_option maxRecDepth 4000 in
set_option maxHeartbeats 1000000 in
theorem fol_none (f : FrM) (v : Vec) (hf : frB f = true) (hv : vB v = true) (hr : readyB f v = false) : DFun Tryz.prog 15 [.val (.agg (frC f).toArray), .val (.agg (c9 v).toArray)] [] (.tup [.val (.agg (frC zF).toArray), .val (.int .i64 4)]) [] := by
  refine dcalls_body (N := 46) 0 (by kernel_rfl) Tryz.func15 rfl rfl rfl (by simp only [fr0, Nat.zero_add, Nat.reduceAdd]; exact rfl) rfl fun s0 hs0 => ?_
  refine dbody_seq rfl hs0 ?_
  refine zaj 4 (by simp only [holes, List.cons_append, List.nil_append]; exact rfl) ?_
  refine zac ?_
  refine zam rfl rfl rfl (op_boxa 0 rfl (ev1 rfl) rfl) (by simp only [upd, za, zaa]; exact rfl) ?_
  refine zam rfl rfl rfl (op_boxa 1 rfl (ev1 rfl) rfl) (by simp only [upd, za, zaa]; exact rfl) ?_
  refine zam rfl rfl rfl (zaq 2 rfl zr29 rfl) (by simp only [upd, za, zaa]; exact rfl) ?_
  refine zam rfl rfl rfl (zaq 3 rfl zr34 rfl) (by simp only [upd, za, zaa]; exact rfl) ?_
  refine zae ?_
  refine dbody_defer (l0 := [_]) rfl rfl rfl rfl rfl hs0 ?_
  refine zab rfl rfl rfl (op_mkf rfl en (ec (ev1 rfl) en)) ?_
  refine zae ⟨_, _, _, 4, ev1 rfl, Nat.le_trans hs0 (by decide), rfl, ?_⟩
  have hs1 : s0.M.length ≤ 4 := Nat.le_trans hs0 (by decide)
  refine dbody_end rfl hs0 ?_
  refine zaf ?_
  refine zaj 1 (by simp only [holes, List.cons_append, List.nil_append]; exact rfl) ?_
  refine zac ?_
  refine zab rfl rfl rfl (zas rfl tb29 (ev1 rfl) rfl (zao _)) ?_
  refine zam rfl rfl rfl (zah [] [] [4] rfl (ev1 rfl) (ec (ev1 rfl) en) rfl rfl (chOf_ok f hf) rfl rfl rfl rfl rfl rfl) (by simp only [upd, za, zaa]; exact rfl) ?_
  refine zab rfl rfl rfl (zad (.inr rfl) (ev1 rfl)) ?_
  refine zae ?_
  refine zaf ?_
  refine zac ?_
  refine zab rfl rfl rfl (zas rfl tb24 (ev1 rfl) rfl rfl) ?_
  refine zab rfl rfl rfl (zah [] [] [] rfl (ev1 rfl) (ec (ev1 rfl) en) rfl rfl (vCheck_d _) rfl rfl rfl rfl rfl rfl) ?_
  refine zab rfl rfl rfl (zb rfl (ev1 rfl) (ev1 rfl)) ?_
  refine zab rfl rfl rfl (zah [] [] [] rfl (ev1 rfl) (ec (ev1 rfl) (ec (ev1 rfl) en)) rfl rfl (need_ok _ _ (by rw [errz _ (by decide), hv])) rfl rfl rfl rfl rfl rfl) ?_
  refine zae ?_
  refine zaf ?_
  refine zaj 1 (by simp only [holes, List.cons_append, List.nil_append]; exact rfl) ?_
  refine zac ?_
  refine zab rfl rfl rfl (zas rfl tb29 (ev1 rfl) rfl (zao _)) ?_
  refine zab rfl rfl rfl (zas rfl tb24 (ev1 rfl) rfl rfl) ?_
  refine zab rfl rfl rfl (zah [] [] [] rfl (ev1 rfl) (ec (ev1 rfl) (ec (ev1 rfl) en)) rfl rfl (rdy_d _ _) rfl rfl rfl rfl rfl rfl) ?_
  refine zab rfl rfl rfl (zad (.inl rfl) (ev1 rfl)) ?_
  refine zab rfl rfl rfl (op_ext rfl (ev1 rfl) rfl) ?_
  refine zab rfl rfl rfl (op_ext rfl (ev1 rfl) rfl) ?_
  refine zam rfl rfl rfl (zaq 5 rfl zr24 rfl) (by simp only [upd, za, zaa]; exact rfl) ?_
  refine zax rfl rfl (op_stwa rfl tb24 (ev1 rfl) (ev1 rfl) rfl rfl rfl rfl) (by simp only [upd, za, zaa]; exact rfl) ?_
  refine zab rfl rfl rfl (zad (.inr rfl) (ev1 rfl)) ?_
  refine zae ?_
  refine zaf ?_
  refine zac ?_
  refine zab rfl rfl rfl (zad (.inl rfl) (ev1 rfl)) ?_
  refine walk_p rfl (dop_callP [] [] [] rfl (ev1 rfl) (ec (ev1 rfl) (ec (ev1 rfl) en)) rfl rfl (need_no _ _ (by rw [rdyF_no hr])) rfl rfl rfl rfl rfl rfl) rfl ?_
  refine kdef (dturn_caught [3] [] rfl rfl rfl (fold1_caught _ _) rfl rfl rfl rfl rfl) ?_
  refine kend0 (rs2 rfl (rv_w tb29 rfl rfl (zao _)) (rv_1 tb34 rfl rfl rfl)) rfl ?_
  rfl
set_option maxRecDepth 4000 in
set_option maxHeartbeats 1000000 in
theorem fol_ok (f : FrM) (v : Vec) (hf : frB f = true) (hv : vB v = true) (hr : readyB f v = true) : DFun Tryz.prog 15 [.val (.agg (frC f).toArray), .val (.agg (c9 v).toArray)] [] (.tup [.val (.agg (frC ⟨f.pr, askV f, 0, f.st⟩).toArray), .val (.int .i64 0)]) [] := by
  refine dcalls_body (N := 46) 0 (by kernel_rfl) Tryz.func15 rfl rfl rfl (by simp only [fr0, Nat.zero_add, Nat.reduceAdd]; exact rfl) rfl fun s0 hs0 => ?_
  refine dbody_seq rfl hs0 ?_
  refine zaj 4 (by simp only [holes, List.cons_append, List.nil_append]; exact rfl) ?_
  refine zac ?_
  refine zam rfl rfl rfl (op_boxa 0 rfl (ev1 rfl) rfl) (by simp only [upd, za, zaa]; exact rfl) ?_
  refine zam rfl rfl rfl (op_boxa 1 rfl (ev1 rfl) rfl) (by simp only [upd, za, zaa]; exact rfl) ?_
  refine zam rfl rfl rfl (zaq 2 rfl zr29 rfl) (by simp only [upd, za, zaa]; exact rfl) ?_
  refine zam rfl rfl rfl (zaq 3 rfl zr34 rfl) (by simp only [upd, za, zaa]; exact rfl) ?_
  refine zae ?_
  refine dbody_defer (l0 := [_]) rfl rfl rfl rfl rfl hs0 ?_
  refine zab rfl rfl rfl (op_mkf rfl en (ec (ev1 rfl) en)) ?_
  refine zae ⟨_, _, _, 4, ev1 rfl, Nat.le_trans hs0 (by decide), rfl, ?_⟩
  have hs1 : s0.M.length ≤ 4 := Nat.le_trans hs0 (by decide)
  refine dbody_end rfl hs0 ?_
  refine zaf ?_
  refine zaj 1 (by simp only [holes, List.cons_append, List.nil_append]; exact rfl) ?_
  refine zac ?_
  refine zab rfl rfl rfl (zas rfl tb29 (ev1 rfl) rfl (zao _)) ?_
  refine zam rfl rfl rfl (zah [] [] [4] rfl (ev1 rfl) (ec (ev1 rfl) en) rfl rfl (chOf_ok f hf) rfl rfl rfl rfl rfl rfl) (by simp only [upd, za, zaa]; exact rfl) ?_
  refine zab rfl rfl rfl (zad (.inr rfl) (ev1 rfl)) ?_
  refine zae ?_
  refine zaf ?_
  refine zac ?_
  refine zab rfl rfl rfl (zas rfl tb24 (ev1 rfl) rfl rfl) ?_
  refine zab rfl rfl rfl (zah [] [] [] rfl (ev1 rfl) (ec (ev1 rfl) en) rfl rfl (vCheck_d _) rfl rfl rfl rfl rfl rfl) ?_
  refine zab rfl rfl rfl (zb rfl (ev1 rfl) (ev1 rfl)) ?_
  refine zab rfl rfl rfl (zah [] [] [] rfl (ev1 rfl) (ec (ev1 rfl) (ec (ev1 rfl) en)) rfl rfl (need_ok _ _ (by rw [errz _ (by decide), hv])) rfl rfl rfl rfl rfl rfl) ?_
  refine zae ?_
  refine zaf ?_
  refine zaj 1 (by simp only [holes, List.cons_append, List.nil_append]; exact rfl) ?_
  refine zac ?_
  refine zab rfl rfl rfl (zas rfl tb29 (ev1 rfl) rfl (zao _)) ?_
  refine zab rfl rfl rfl (zas rfl tb24 (ev1 rfl) rfl rfl) ?_
  refine zab rfl rfl rfl (zah [] [] [] rfl (ev1 rfl) (ec (ev1 rfl) (ec (ev1 rfl) en)) rfl rfl (rdy_d _ _) rfl rfl rfl rfl rfl rfl) ?_
  refine zab rfl rfl rfl (zad (.inl rfl) (ev1 rfl)) ?_
  refine zab rfl rfl rfl (op_ext rfl (ev1 rfl) rfl) ?_
  refine zab rfl rfl rfl (op_ext rfl (ev1 rfl) rfl) ?_
  refine zam rfl rfl rfl (zaq 5 rfl zr24 rfl) (by simp only [upd, za, zaa]; exact rfl) ?_
  refine zax rfl rfl (op_stwa rfl tb24 (ev1 rfl) (ev1 rfl) rfl rfl rfl rfl) (by simp only [upd, za, zaa]; exact rfl) ?_
  refine zab rfl rfl rfl (zad (.inr rfl) (ev1 rfl)) ?_
  refine zae ?_
  refine zaf ?_
  refine zac ?_
  refine zab rfl rfl rfl (zad (.inl rfl) (ev1 rfl)) ?_
  refine zab rfl rfl rfl (zah [] [] [] rfl (ev1 rfl) (ec (ev1 rfl) (ec (ev1 rfl) en)) rfl rfl (need_ok _ _ (by rw [rdyF_yes hf hv hr])) rfl rfl rfl rfl rfl rfl) ?_
  refine zae ?_
  refine zaf ?_
  refine dwp_draw [([], []), ([], []), ([], []), ([], []), ([], []), ([], []), ([], []), ([4], []), ([5], []), ([], []), ([], []), ([], []), ([4], [4]), ([], []), ([], []), ([], []), ([4], [4]), ([], []), ([], []), ([], []), ([4], [4])] mixed (by kernel_rfl) ?_
  refine lex_r rfl rfl (zad (.inl rfl) (ev1 rfl)) ?_
  refine lex_r rfl rfl (zad (.inl rfl) (ev1 rfl)) ?_
  refine lex_r rfl rfl (zad (.inl rfl) (ev1 rfl)) ?_
  refine lex_r rfl rfl (zad (.inl rfl) (ev1 rfl)) ?_
  refine lex_r rfl rfl (op_nc rfl (ev1 rfl) (fun s v h => by cases h; exact ⟨_, rfl⟩)) ?_
  refine lex_r rfl rfl (zap rfl fo101_0 (ev1 rfl)) ?_
  refine lex_r rfl rfl (zap rfl fo29_2 (ev1 rfl)) ?_
  refine lex_r rfl rfl (op_ldo rfl tb22 (ev1 rfl) rfl (frC_pr _)) ?_
  refine lex_r rfl rfl (zas rfl tb24 (ev1 rfl) rfl rfl) ?_
  refine lex_r rfl rfl (op_nc rfl (ev1 rfl) (fun s v h => by cases h; exact ⟨_, rfl⟩)) ?_
  refine lex_r rfl rfl (zap rfl fo101_0 (ev1 rfl)) ?_
  refine lex_r rfl rfl (zap rfl fo29_0 (ev1 rfl)) ?_
  refine lex_s rfl rfl (op_st1 rfl tb22 (ev1 rfl) (ev1 rfl) rfl (by simp only [zao]; omega) (frC_wfo f f.pr)) rfl (by simp only [upd, za, zaa]; exact rfl) ?_
  refine lex_r rfl rfl (op_nc rfl (ev1 rfl) (fun s v h => by cases h; exact ⟨_, rfl⟩)) ?_
  refine lex_r rfl rfl (zap rfl fo101_0 (ev1 rfl)) ?_
  refine lex_r rfl rfl (zap rfl fo29_1 (ev1 rfl)) ?_
  refine lex_s rfl rfl (op_st (C := c9 (rdyF f v).1) rfl tb24 (ev1 rfl) (ev1 rfl) rfl rfl rfl rfl (by simp only [zao, c9_len]; omega) (frC_wbv _ _)) rfl (by simp only [upd, za, zaa]; exact rfl) ?_
  refine lex_r rfl rfl (op_nc rfl (ev1 rfl) (fun s v h => by cases h; exact ⟨_, rfl⟩)) ?_
  refine lex_r rfl rfl (zap rfl fo101_0 (ev1 rfl)) ?_
  refine lex_r rfl rfl (zap rfl fo29_2 (ev1 rfl)) ?_
  refine lex_s rfl rfl (op_st1 rfl tb22 (ev1 rfl) (ev1 rfl) rfl (by simp only [zao]; omega) (frC_wpr _)) rfl (by simp only [upd, za, zaa]; exact rfl) ?_
  refine lex_nil ?_
  refine zaf ?_
  refine zac ?_
  refine zab rfl rfl rfl (zad (.inl rfl) (ev1 rfl)) ?_
  refine zab rfl rfl rfl (op_nc rfl (ev1 rfl) (fun s v h => by cases h; exact ⟨_, rfl⟩)) ?_
  refine zab rfl rfl rfl (zap rfl fo101_0 (ev1 rfl)) ?_
  refine zab rfl rfl rfl (zas rfl tb29 (ev1 rfl) rfl (zao _)) ?_
  refine zax rfl rfl (op_stwa rfl tb29 (ev1 rfl) (ev1 rfl) rfl (zao _) (frC_oc _) rfl) (by simp only [upd, za, zaa]; exact rfl) ?_
  refine zax rfl rfl (op_stwi rfl tb34 (ev1 rfl) (ev1 rfl) rfl) (by simp only [upd, za, zaa]; exact rfl) ?_
  refine zae ?_
  refine zau ?_
  refine kdef (dturn_idle [3] [] rfl rfl (fold1_idle _) rfl rfl rfl rfl rfl) ?_
  refine kend0 (rs2 rfl (rv_w tb29 rfl rfl (zao _)) (rv_1 tb34 rfl rfl rfl)) rfl ?_
  rw [rdyF_yes hf hv hr]
theorem fol_d (f : FrM) (v : Vec) : DFun Tryz.prog 15 [.val (.agg (frC f).toArray), .val (.agg (c9 v).toArray)] [] (.tup [.val (.agg (frC (folF f v).1).toArray), .val (.int .i64 (folF f v).2)]) [] := by
  unfold folF
  cases hf : frB f
  · exact fol_no f v hf
  · cases hv : vB v
    · exact fol_arg f v hf hv
    · cases hr : readyB f v
      · exact fol_none f v hf hv hr
      · exact fol_ok f v hf hv hr
set_option maxRecDepth 4000 in
set_option maxHeartbeats 1000000 in
theorem wai_no (f : FrM) (v : Vec) (hf : frB f = false) : DFun Tryz.prog 21 [.val (.agg (frC f).toArray), .val (.agg (c9 v).toArray)] [] (.val (.slice none 0 0)) [] := by
  refine dcalls_body (N := 15) 0 (by kernel_rfl) Tryz.func21 rfl rfl rfl (by simp only [fr0, Nat.zero_add, Nat.reduceAdd]; exact rfl) rfl fun s0 hs0 => ?_
  refine dbody_seq rfl hs0 ?_
  refine zaj 2 (by simp only [holes, List.cons_append, List.nil_append]; exact rfl) ?_
  refine zac ?_
  refine zam rfl rfl rfl (op_boxa 0 rfl (ev1 rfl) rfl) (by simp only [upd, za, zaa]; exact rfl) ?_
  refine zam rfl rfl rfl (op_boxa 1 rfl (ev1 rfl) rfl) (by simp only [upd, za, zaa]; exact rfl) ?_
  refine zab rfl rfl rfl (zad (.inr rfl) (ev1 rfl)) ?_
  refine zae ?_
  refine dbody_defer (l0 := []) rfl rfl rfl rfl rfl hs0 ?_
  refine zae ⟨_, _, _, 2, ev1 rfl, Nat.le_trans hs0 (by decide), rfl, ?_⟩
  have hs1 : s0.M.length ≤ 2 := Nat.le_trans hs0 (by decide)
  refine dbody_end rfl hs0 ?_
  refine zaf ?_
  refine zac ?_
  refine zab rfl rfl rfl (zas rfl tb29 (ev1 rfl) rfl (zao _)) ?_
  refine walk_p rfl (dop_callP [] [] [] rfl (ev1 rfl) (ec (ev1 rfl) en) rfl rfl (chOf_no f hf) rfl rfl rfl rfl rfl rfl) rfl ?_
  refine kdef (dturn_caught [] [] rfl rfl rfl (waits1_caught _) rfl rfl rfl rfl rfl) ?_
  refine kend0 (rs1 rfl (rv_t rfl)) rfl ?_
  rfl
set_option maxRecDepth 4000 in
set_option maxHeartbeats 1000000 in
theorem wai_arg (f : FrM) (v : Vec) (hf : frB f = true) (hv : vB v = false) : DFun Tryz.prog 21 [.val (.agg (frC f).toArray), .val (.agg (c9 v).toArray)] [] (.val (.slice none 0 0)) [] := by
  refine dcalls_body (N := 15) 0 (by kernel_rfl) Tryz.func21 rfl rfl rfl (by simp only [fr0, Nat.zero_add, Nat.reduceAdd]; exact rfl) rfl fun s0 hs0 => ?_
  refine dbody_seq rfl hs0 ?_
  refine zaj 2 (by simp only [holes, List.cons_append, List.nil_append]; exact rfl) ?_
  refine zac ?_
  refine zam rfl rfl rfl (op_boxa 0 rfl (ev1 rfl) rfl) (by simp only [upd, za, zaa]; exact rfl) ?_
  refine zam rfl rfl rfl (op_boxa 1 rfl (ev1 rfl) rfl) (by simp only [upd, za, zaa]; exact rfl) ?_
  refine zab rfl rfl rfl (zad (.inr rfl) (ev1 rfl)) ?_
  refine zae ?_
  refine dbody_defer (l0 := []) rfl rfl rfl rfl rfl hs0 ?_
  refine zae ⟨_, _, _, 2, ev1 rfl, Nat.le_trans hs0 (by decide), rfl, ?_⟩
  have hs1 : s0.M.length ≤ 2 := Nat.le_trans hs0 (by decide)
  refine dbody_end rfl hs0 ?_
  refine zaf ?_
  refine zaj 1 (by simp only [holes, List.cons_append, List.nil_append]; exact rfl) ?_
  refine zac ?_
  refine zab rfl rfl rfl (zas rfl tb29 (ev1 rfl) rfl (zao _)) ?_
  refine zam rfl rfl rfl (zah [] [] [2] rfl (ev1 rfl) (ec (ev1 rfl) en) rfl rfl (chOf_ok f hf) rfl rfl rfl rfl rfl rfl) (by simp only [upd, za, zaa]; exact rfl) ?_
  refine zab rfl rfl rfl (zad (.inr rfl) (ev1 rfl)) ?_
  refine zae ?_
  refine zaf ?_
  refine zac ?_
  refine zab rfl rfl rfl (zas rfl tb24 (ev1 rfl) rfl rfl) ?_
  refine zab rfl rfl rfl (zah [] [] [] rfl (ev1 rfl) (ec (ev1 rfl) en) rfl rfl (vCheck_d _) rfl rfl rfl rfl rfl rfl) ?_
  refine zab rfl rfl rfl (zb rfl (ev1 rfl) (ev1 rfl)) ?_
  refine walk_p rfl (dop_callP [] [] [] rfl (ev1 rfl) (ec (ev1 rfl) (ec (ev1 rfl) en)) rfl rfl (need_no _ _ (by rw [errz _ (by decide), hv])) rfl rfl rfl rfl rfl rfl) rfl ?_
  refine kdef (dturn_caught [] [] rfl rfl rfl (waits1_caught _) rfl rfl rfl rfl rfl) ?_
  refine kend0 (rs1 rfl (rv_t rfl)) rfl ?_
  rfl
set_option maxRecDepth 4000 in
set_option maxHeartbeats 1000000 in
theorem wai_0 (f : FrM) (v : Vec) (hf : frB f = true) (hv : vB v = true) (hp : f.pr = 0) : DFun Tryz.prog 21 [.val (.agg (frC f).toArray), .val (.agg (c9 v).toArray)] [] (.val (.slice none 0 0)) [] := by
  refine dcalls_body (N := 15) 0 (by kernel_rfl) Tryz.func21 rfl rfl rfl (by simp only [fr0, Nat.zero_add, Nat.reduceAdd]; exact rfl) rfl fun s0 hs0 => ?_
  refine dbody_seq rfl hs0 ?_
  refine zaj 2 (by simp only [holes, List.cons_append, List.nil_append]; exact rfl) ?_
  refine zac ?_
  refine zam rfl rfl rfl (op_boxa 0 rfl (ev1 rfl) rfl) (by simp only [upd, za, zaa]; exact rfl) ?_
  refine zam rfl rfl rfl (op_boxa 1 rfl (ev1 rfl) rfl) (by simp only [upd, za, zaa]; exact rfl) ?_
  refine zab rfl rfl rfl (zad (.inr rfl) (ev1 rfl)) ?_
  refine zae ?_
  refine dbody_defer (l0 := []) rfl rfl rfl rfl rfl hs0 ?_
  refine zae ⟨_, _, _, 2, ev1 rfl, Nat.le_trans hs0 (by decide), rfl, ?_⟩
  have hs1 : s0.M.length ≤ 2 := Nat.le_trans hs0 (by decide)
  refine dbody_end rfl hs0 ?_
  refine zaf ?_
  refine zaj 1 (by simp only [holes, List.cons_append, List.nil_append]; exact rfl) ?_
  refine zac ?_
  refine zab rfl rfl rfl (zas rfl tb29 (ev1 rfl) rfl (zao _)) ?_
  refine zam rfl rfl rfl (zah [] [] [2] rfl (ev1 rfl) (ec (ev1 rfl) en) rfl rfl (chOf_ok f hf) rfl rfl rfl rfl rfl rfl) (by simp only [upd, za, zaa]; exact rfl) ?_
  refine zab rfl rfl rfl (zad (.inr rfl) (ev1 rfl)) ?_
  refine zae ?_
  refine zaf ?_
  refine zac ?_
  refine zab rfl rfl rfl (zas rfl tb24 (ev1 rfl) rfl rfl) ?_
  refine zab rfl rfl rfl (zah [] [] [] rfl (ev1 rfl) (ec (ev1 rfl) en) rfl rfl (vCheck_d _) rfl rfl rfl rfl rfl rfl) ?_
  refine zab rfl rfl rfl (zb rfl (ev1 rfl) (ev1 rfl)) ?_
  refine zab rfl rfl rfl (zah [] [] [] rfl (ev1 rfl) (ec (ev1 rfl) (ec (ev1 rfl) en)) rfl rfl (need_ok _ _ (by rw [errz _ (by decide), hv])) rfl rfl rfl rfl rfl rfl) ?_
  refine zae ?_
  refine zaf ?_
  refine zac ?_
  refine zab rfl rfl rfl (zad (.inl rfl) (ev1 rfl)) ?_
  refine zab rfl rfl rfl (zas rfl tb24 (ev1 rfl) rfl rfl) ?_
  refine zam rfl rfl rfl (zah [2] [] [] rfl (ev1 rfl) (ec (ev1 rfl) (ec (ev1 rfl) en)) rfl rfl (waits_0 f v hf hp) rfl rfl rfl rfl rfl rfl) (by simp only [upd, za, zaa]; exact rfl) ?_
  refine zab rfl rfl rfl (zad (.inr rfl) (ev1 rfl)) ?_
  refine zae ?_
  refine zau ?_
  refine kdef (dturn_idle [] [] rfl rfl (waits1_idle) rfl rfl rfl rfl rfl) ?_
  refine kend0 (rs1 rfl (rv_t rfl)) rfl ?_
  rfl
set_option maxRecDepth 4000 in
set_option maxHeartbeats 1000000 in
theorem wai_ok (f : FrM) (v : Vec) (hf : frB f = true) (hv : vB v = true) (hp : ¬ f.pr = 0) : DFun Tryz.prog 21 [.val (.agg (frC f).toArray), .val (.agg (c9 v).toArray)] [] (.slf 1 (waitL f v).length ((waitL f v).flatMap inI)) [] := by
  refine dcalls_body (N := 15) 0 (by kernel_rfl) Tryz.func21 rfl rfl rfl (by simp only [fr0, Nat.zero_add, Nat.reduceAdd]; exact rfl) rfl fun s0 hs0 => ?_
  refine dbody_seq rfl hs0 ?_
  refine zaj 2 (by simp only [holes, List.cons_append, List.nil_append]; exact rfl) ?_
  refine zac ?_
  refine zam rfl rfl rfl (op_boxa 0 rfl (ev1 rfl) rfl) (by simp only [upd, za, zaa]; exact rfl) ?_
  refine zam rfl rfl rfl (op_boxa 1 rfl (ev1 rfl) rfl) (by simp only [upd, za, zaa]; exact rfl) ?_
  refine zab rfl rfl rfl (zad (.inr rfl) (ev1 rfl)) ?_
  refine zae ?_
  refine dbody_defer (l0 := []) rfl rfl rfl rfl rfl hs0 ?_
  refine zae ⟨_, _, _, 2, ev1 rfl, Nat.le_trans hs0 (by decide), rfl, ?_⟩
  have hs1 : s0.M.length ≤ 2 := Nat.le_trans hs0 (by decide)
  refine dbody_end rfl hs0 ?_
  refine zaf ?_
  refine zaj 1 (by simp only [holes, List.cons_append, List.nil_append]; exact rfl) ?_
  refine zac ?_
  refine zab rfl rfl rfl (zas rfl tb29 (ev1 rfl) rfl (zao _)) ?_
  refine zam rfl rfl rfl (zah [] [] [2] rfl (ev1 rfl) (ec (ev1 rfl) en) rfl rfl (chOf_ok f hf) rfl rfl rfl rfl rfl rfl) (by simp only [upd, za, zaa]; exact rfl) ?_
  refine zab rfl rfl rfl (zad (.inr rfl) (ev1 rfl)) ?_
  refine zae ?_
  refine zaf ?_
  refine zac ?_
  refine zab rfl rfl rfl (zas rfl tb24 (ev1 rfl) rfl rfl) ?_
  refine zab rfl rfl rfl (zah [] [] [] rfl (ev1 rfl) (ec (ev1 rfl) en) rfl rfl (vCheck_d _) rfl rfl rfl rfl rfl rfl) ?_
  refine zab rfl rfl rfl (zb rfl (ev1 rfl) (ev1 rfl)) ?_
  refine zab rfl rfl rfl (zah [] [] [] rfl (ev1 rfl) (ec (ev1 rfl) (ec (ev1 rfl) en)) rfl rfl (need_ok _ _ (by rw [errz _ (by decide), hv])) rfl rfl rfl rfl rfl rfl) ?_
  refine zae ?_
  refine zaf ?_
  refine zac ?_
  refine zab rfl rfl rfl (zad (.inl rfl) (ev1 rfl)) ?_
  refine zab rfl rfl rfl (zas rfl tb24 (ev1 rfl) rfl rfl) ?_
  refine zam rfl rfl rfl (zah [2] [] [] rfl (ev1 rfl) (ec (ev1 rfl) (ec (ev1 rfl) en)) rfl rfl (waits_d f v hf hp) rfl rfl rfl rfl rfl rfl) (by simp only [upd, za, zaa]; exact rfl) ?_
  refine zab rfl rfl rfl (zad (.inr rfl) (ev1 rfl)) ?_
  refine zae ?_
  refine zau ?_
  refine kdef (dturn_idle [] [] rfl rfl (waits1_idle) rfl rfl rfl rfl rfl) ?_
  refine kend0 (rs1 rfl (rv_t rfl)) rfl ?_
  rfl
theorem wai_d (f : FrM) (v : Vec) : DFun Tryz.prog 21 [.val (.agg (frC f).toArray), .val (.agg (c9 v).toArray)] [] (.slf 1 (waiF f v).length ((waiF f v).flatMap inI)) [] := by
  unfold waiF
  cases hf : frB f
  · exact (wai_no f v hf).wk (Wk.slf0 1)
  · cases hv : vB v
    · exact (wai_arg f v hf hv).wk (Wk.slf0 1)
    · by_cases hp : f.pr = 0
      · rw [if_neg (by rw [hp]; simp)]; exact (wai_0 f v hf hv hp).wk (Wk.slf0 1)
      · rw [if_pos (by simp; omega)]; exact wai_ok f v hf hv hp
end Go.Proofs.YtnjnhghafjlmbaaGreat
namespace Go.Proofs.YtnjnhghafjlmbaaGreat
set_option linter.unusedVariables false
set_option linter.unusedSimpArgs false
open Go.RowKit
theorem tb3 : tyB Tryz.prog 3 = some (false, 1) := by kernel_rfl
def glTo (p : Nat → Bool) (g : Nat → Int) (k : Nat) : List Int := ((List.range k).filter p).map g
theorem glTo_yes {p : Nat → Bool} {g : Nat → Int} {k : Nat} (h : p k = true) : glTo p g (k + 1) = glTo p g k ++ [g k] := by
  unfold glTo
  rw [List.range_succ, List.filter_append, List.filter_cons_of_pos h, List.filter_nil, List.map_append]
  rfl
theorem glTo_no {p : Nat → Bool} {g : Nat → Int} {k : Nat} (h : p k = false) : glTo p g (k + 1) = glTo p g k := by
  unfold glTo
  rw [List.range_succ, List.filter_append, List.filter_cons_of_neg (by rw [h]; decide), List.filter_nil, List.append_nil]
theorem glTo_len (p : Nat → Bool) (g : Nat → Int) (k : Nat) : (glTo p g k).length ≤ k := by
  unfold glTo
  rw [List.length_map]
  exact Nat.le_trans (List.length_filter_le _ _) (by simp)
def faG (p : Nat → Bool) (g : Nat → Int) (Bs : List Mem) (q : Nat) : Nat → List Mem × Nat
  | 0 => (Bs, q)
  | k + 1 => if p k = true then ((faG p g Bs q k).1.set (faG p g Bs q k).2 .gone ++ [rowI (glTo p g k ++ [g k])], (faG p g Bs q k).1.length) else faG p g Bs q k
theorem faG_yes {p : Nat → Bool} {g : Nat → Int} {Bs : List Mem} {q k : Nat} (h : p k = true) : faG p g Bs q (k + 1) = ((faG p g Bs q k).1.set (faG p g Bs q k).2 .gone ++ [rowI (glTo p g k ++ [g k])], (faG p g Bs q k).1.length) := by
  show (if p k = true then _ else _) = _
  rw [if_pos h]
theorem faG_no {p : Nat → Bool} {g : Nat → Int} {Bs : List Mem} {q k : Nat} (h : p k = false) : faG p g Bs q (k + 1) = faG p g Bs q k := by
  show (if p k = true then _ else _) = _
  rw [if_neg (by rw [h]; decide)]
theorem faG_row {p : Nat → Bool} {g : Nat → Int} {Bs : List Mem} {q : Nat} (hB : Bs[q]? = some (rowI [])) : ∀ k, (faG p g Bs q k).1[(faG p g Bs q k).2]? = some (rowI (glTo p g k))
  | 0 => hB
  | k + 1 => by
    cases h : p k
    · rw [faG_no h, glTo_no h]; exact faG_row hB k
    · rw [faG_yes h, glTo_yes h]; exact fam_new
theorem glTo_all (f : FrM) : glTo (fun i => (f.st i).inn) (fun i => (i : Int)) 9 = sitL f := rfl
theorem glTo_list (h : Int → Bool) (l : List Int) : ∀ k, k ≤ l.length → glTo (fun i => h (l.getD i 0)) (fun i => l.getD i 0) k = (l.take k).filter h
  | 0, _ => by simp [glTo]
  | k + 1, hk => by
    have e : l.getD k 0 = l[k] := by rw [List.getD_eq_getElem?_getD, List.getElem?_eq_getElem (by omega)]; rfl
    rw [List.take_succ_eq_append_getElem (by omega), List.filter_append]
    cases hh : h l[k]
    · rw [glTo_no (by show h (l.getD k 0) = false; rw [e]; exact hh), glTo_list h l k (by omega), List.filter_cons_of_neg (by rw [hh]; decide), List.filter_nil, List.append_nil]
    · rw [glTo_yes (by show h (l.getD k 0) = true; rw [e]; exact hh), glTo_list h l k (by omega), List.filter_cons_of_pos hh, List.filter_nil, e]
noncomputable def sitA : Code := rfA (pth [1, 1, 1, 0, 1, 0, 0, 1, 0] (bodyOf Tryz.f26))
noncomputable def sitB : Code := rfB (pth [1, 1, 1, 0, 1, 0, 0, 1, 0] (bodyOf Tryz.f26))
set_option maxRecDepth 4000 in
set_option maxHeartbeats 1000000 in
theorem sitRound (Bs : List Mem) (q : Nat) (j : Nat) (p : Pl) (l : List Int) (hl : l.length ≤ 9) (hB : Bs[q]? = some (rowI l)) : DRound Tryz.prog 0 [.val (.int .i64 (j : Int)), .val (.agg (plC p).toArray)] [.lp 47 [(4, .loc 1 0)] #[16, 17] sitA sitB .ready none, .mix 31 [.farr 2 q], .fam Bs] true [.lp 47 [(4, .loc 1 0)] #[16, 17] sitA sitB .ready none, .mix 31 [.farr 2 Bs.length], .fam (Bs.set q .gone ++ [rowI (l ++ [(j : Int)])])] := by
  refine dround_go 3 rfl rfl (by simp) rfl rfl fun s0 hs0 => ?_
  refine zac ?_
  refine zab rfl rfl rfl (zad (.inr rfl) (ev1 rfl)) ?_
  refine zae ?_
  refine ⟨rfl, ?_⟩
  simp only [za, zaa]
  refine zat ?_
  refine zaj 2 (by simp only [holes, List.cons_append, List.nil_append]; exact rfl) ?_
  refine zac ?_
  refine zab rfl rfl rfl (zav rfl tb31 (ev1 rfl) rfl rfl) ?_
  refine zab rfl rfl rfl (zad (.inl rfl) (ev1 rfl)) ?_
  refine zab rfl rfl rfl (op_bs (ps := [(0, .tmp 19)]) rfl sl31 zr3 rfl (vc (ev1 rfl) vn) rfl (by decide) (by decide)) ?_
  refine zam rfl rfl rfl (op_appF (j1 := 3) (j2 := 4) rfl rfl sl31 zr3 rfl (ev1 rfl) (ev1 rfl) rfl (hB) rfl rfl rfl (fun _ => rfl) (fun _ => ⟨by omega, by omega⟩)) (by simp only [upd, za, zaa]; exact rfl) ?_
  refine zax rfl rfl (op_stm rfl tb31 (ev1 rfl) (ev1 rfl) (fun s v h => by cases h <;> exact ⟨rfl, rfl⟩) rfl (by first | decide | exact Nat.le_of_ble_eq_true rfl | simp)) (by simp only [upd, za, zaa]; exact rfl) ?_
  refine zae ?_
  refine ⟨by first | rfl | assumption | simp_all, rfl, [0, 1, 2], rfl, ⟨rfl, rfl, by rw [← rowI_add]; rfl, trivial⟩⟩
set_option maxRecDepth 4000 in
set_option maxHeartbeats 1000000 in
theorem rd_sites (f : FrM) (Bs : List Mem) (q : Nat) (hB : Bs[q]? = some (rowI [])) : DFun Tryz.prog 80 [.yld 0, .loc 3 0] [.lp 47 [(4, .loc 1 0)] #[16, 17] sitA sitB .ready none, .mix 31 [.farr 2 q], .fam Bs, .mix 97 [.loc 4 0], .flat 101 (frC f)] (.tup []) [.lp 47 [(4, .loc 1 0)] #[16, 17] sitA sitB .ready none, .mix 31 [.farr 2 (faG (fun i => (f.st i).inn) (fun i : Nat => (i : Int)) Bs q 9).2], .fam (faG (fun i => (f.st i).inn) (fun i : Nat => (i : Int)) Bs q 9).1, .mix 97 [.loc 4 0], .flat 101 (frC f)] := by
  refine zba (N := 24) 5 (by kernel_rfl) Tryz.func80 rfl rfl rfl (by simp only [fr0, Nat.zero_add, Nat.reduceAdd]; exact rfl) rfl fun s0 hs0 => ?_
  refine zaf ?_
  refine zac ?_
  refine zab rfl rfl rfl (zav rfl tb97 (ev1 rfl) rfl rfl) ?_
  refine zab rfl rfl rfl (op_nc rfl (ev1 rfl) (fun s v h => by cases h; exact ⟨_, rfl⟩)) ?_
  refine zab rfl rfl rfl (zap rfl fo101_0 (ev1 rfl)) ?_
  refine zab rfl rfl rfl (zap rfl fo29_3 (ev1 rfl)) ?_
  refine zab rfl rfl rfl (op_ldr rfl tb27 (ev1 rfl) rfl (stC_flat f) (by rw [sL_flat]; rfl)) ?_
  refine zab rfl rfl rfl (zad (.inl rfl) (ev1 rfl)) ?_
  refine zae ?_
  refine zat ?_
  refine dwp_loopS ⟨hs0, rfl⟩ (α := Nat) (fun k => [(10, .val (.int .i64 (k : Int)))]) [(0, _), (9, _)] (fun k => [(1, .mix 31 [.farr 2 (faG (fun i => (f.st i).inn) (fun i : Nat => (i : Int)) Bs q k).2]), (2, .fam (faG (fun i => (f.st i).inn) (fun i : Nat => (i : Int)) Bs q k).1)]) [_, .hole, .hole, _, _] (fun k => k ≤ 9) (fun k => 9 - k) 0 [0, 1, 2, 3, 4] (by omega) rfl ⟨rfl, rfl, trivial⟩ ⟨rfl, trivial⟩ ⟨rfl, rfl, rfl, rfl, rfl, trivial⟩ ?_
  intro k hx
  simp only [upd, za, zaa, List.cons_append, List.nil_append]
  have hk := hx
  have hrow := faG_row (p := fun i => (f.st i).inn) (g := fun i : Nat => (i : Int)) hB k
  refine zaf ?_
  refine zac ?_
  refine zab rfl rfl rfl (op_lss rfl (ev1 rfl) (ev1 rfl)) ?_
  refine zae ?_
  refine zaf ?_
  refine zaw rfl (fun c1 => ?_) (fun c1 => ?_)
  · try simp only [decide_eq_true_eq, decide_eq_false_iff_not, beq_iff_eq, bne_iff_ne, beq_eq_false_iff_ne, bne_eq_false_iff_eq, Bool.not_eq_true', Bool.not_eq_false', Bool.and_eq_true, Bool.or_eq_true, Bool.or_eq_false_iff, ne_eq, Decidable.not_not, Int.not_lt, Int.not_le] at c1
    refine zak ?_
    refine zaf ?_
    refine zat ?_
    refine zaf ?_
    refine zaj 1 (by simp only [holes, List.cons_append, List.nil_append]; exact rfl) ?_
    refine zac ?_
    refine zab rfl rfl rfl (zad (.inl rfl) (ev1 rfl)) ?_
    refine zab rfl rfl rfl ((by rw [← sL_at f.st k (by omega)]; exact op_ixv (j := k) (zP) rfl av27 (ev1 rfl) (ev1 rfl) (fun _ => rfl) (fun _ => by omega) (sL_len _) (fun _ => rfl) : DOp _ _ _ _ _ _ (.val (.agg (plC (f.st k)).toArray)) _)) ?_
    refine zam rfl rfl rfl (zaq 5 rfl zr26 rfl) (by simp only [upd, za, zaa]; exact rfl) ?_
    refine zab rfl rfl rfl (zad (.inr rfl) (ev1 rfl)) ?_
    refine zax rfl rfl (op_stwa rfl tb26 (ev1 rfl) (ev1 rfl) rfl rfl rfl rfl) (by simp only [upd, za, zaa]; exact rfl) ?_
    refine zae ?_
    refine zaf ?_
    by_cases hin : (f.st k).inn = true
    · refine zac ?_
      refine zab rfl rfl rfl (zap rfl fo26_0 (ev1 rfl)) ?_
      refine zab rfl rfl rfl ((op_ldo rfl tb4 (ev1 rfl) rfl rfl).cast (d' := .val (.bool true)) (by rw [hin])) ?_
      refine zab rfl rfl rfl (zad (.inl rfl) (ev1 rfl)) ?_
      refine zai (zar (b := true) rfl rfl rfl) rfl rfl rfl (zad (.inl rfl) (ev1 rfl)) (by simp only [upd, za, zaa]; exact rfl) ?_
      refine zai (zar (b := true) rfl rfl rfl) rfl rfl rfl (zad (.inl rfl) (ev1 rfl)) (by simp only [upd, za, zaa]; exact rfl) ?_
      refine zai (zar (b := true) rfl rfl rfl) rfl rfl rfl (zas rfl tb26 (ev1 rfl) rfl rfl) (by simp only [upd, za, zaa]; exact rfl) ?_
      refine zai (zar (b := true) rfl rfl rfl) rfl rfl rfl (op_y (i := 0) [0, 1, 2] [] [] rfl (ev2 rfl) (ec (ev2 rfl) (ec (ev2 rfl) en)) rfl rfl rfl (sitRound (faG (fun i => (f.st i).inn) (fun i : Nat => (i : Int)) Bs q k).1 (faG (fun i => (f.st i).inn) (fun i : Nat => (i : Int)) Bs q k).2 k (f.st k) (glTo (fun i => (f.st i).inn) (fun i : Nat => (i : Int)) k) (by have := glTo_len (fun i => (f.st i).inn) (fun i : Nat => (i : Int)) k; omega) hrow) rfl rfl rfl rfl rfl) (by simp only [upd, za, zaa]; exact rfl) ?_
      refine zai (zar (b := true) rfl rfl rfl) rfl rfl rfl (op_not rfl (ev2 rfl)) (by simp only [upd, za, zaa]; exact rfl) ?_
      refine zab rfl rfl rfl (zaz rfl (ev1 rfl) (ev3 rfl (fun _ => rfl))) ?_
      refine zae ?_
      refine dwp_if_f rfl (rfl) ?_
      refine zak ?_
      refine zac ?_
      refine zab rfl rfl rfl (op_add' rfl (ev1 rfl) (ev1 rfl) (fun _ => IntWalk.i64_in _ (by omega))) ?_
      refine zab rfl rfl rfl (zad (.inl rfl) (ev1 rfl)) ?_
      refine zae ?_
      refine ⟨k + 1, [0, 1, 2, 3, 4], by omega, by simp only []; omega, rfl, ⟨rfl, rfl, rfl, trivial⟩, ⟨rfl, by rw [faG_yes (p := fun i => (f.st i).inn) hin]; rfl, by rw [faG_yes (p := fun i => (f.st i).inn) hin]; rfl, rfl, rfl, trivial⟩⟩
    · refine zac ?_
      refine zab rfl rfl rfl (zap rfl fo26_0 (ev1 rfl)) ?_
      refine zab rfl rfl rfl ((op_ldo rfl tb4 (ev1 rfl) rfl rfl).cast (d' := .val (.bool false)) (by rw [show (f.st k).inn = false by simpa using hin])) ?_
      refine zab rfl rfl rfl (zad (.inl rfl) (ev1 rfl)) ?_
      refine zag (zar (b := false) rfl rfl rfl) rfl rfl rfl (zal (d := .junk)) ?_
      refine zag (zar (b := false) rfl rfl rfl) rfl rfl rfl (zal (d := .junk)) ?_
      refine zag (zar (b := false) rfl rfl rfl) rfl rfl rfl (zal (d := .junk)) ?_
      refine zag (zar (b := false) rfl rfl rfl) rfl rfl rfl (zal (d := .val (.bool false))) ?_
      refine zag (zar (b := false) rfl rfl rfl) rfl rfl rfl (zal (d := .val (.bool false))) ?_
      refine zab rfl rfl rfl (zaz rfl (ev1 rfl) (ev3 rfl id)) ?_
      refine zae ?_
      refine dwp_if_f rfl (rfl) ?_
      refine zak ?_
      refine zac ?_
      refine zab rfl rfl rfl (op_add' rfl (ev1 rfl) (ev1 rfl) (fun _ => IntWalk.i64_in _ (by omega))) ?_
      refine zab rfl rfl rfl (zad (.inl rfl) (ev1 rfl)) ?_
      refine zae ?_
      refine ⟨k + 1, [0, 1, 2, 3, 4], by omega, by simp only []; omega, rfl, ⟨rfl, rfl, rfl, trivial⟩, ⟨rfl, by rw [faG_no (p := fun i => (f.st i).inn) (k := k) (by simpa using hin)]; rfl, by rw [faG_no (p := fun i => (f.st i).inn) (k := k) (by simpa using hin)]; rfl, rfl, rfl, trivial⟩⟩
  · try simp only [decide_eq_true_eq, decide_eq_false_iff_not, beq_iff_eq, bne_iff_ne, beq_eq_false_iff_ne, bne_eq_false_iff_eq, Bool.not_eq_true', Bool.not_eq_false', Bool.and_eq_true, Bool.or_eq_true, Bool.or_eq_false_iff, ne_eq, Decidable.not_not, Int.not_lt, Int.not_le] at c1
    refine dwp_exit ?_
    have hk9 : k = 9 := by omega
    subst hk9
    refine kend [0, 1, 2, 3, 4] (res_none rfl) rfl rfl ?_ ⟨rfl, rfl, rfl, rfl, rfl, trivial⟩
    rfl
set_option maxRecDepth 4000 in
set_option maxHeartbeats 1000000 in
theorem sit_no (f : FrM) (l : List Int) (hf : frB f = false) : DFun Tryz.prog 26 [.val (.agg (frC f).toArray), .slf 1 l.length (l.flatMap inI)] [] (.val (.slice none 0 0)) [] := by
  refine dcalls_body (N := 47) 0 (by kernel_rfl) Tryz.func26 rfl rfl rfl (by simp only [fr0, Nat.zero_add, Nat.reduceAdd]; exact rfl) rfl fun s0 hs0 => ?_
  refine dbody_seq rfl hs0 ?_
  refine zaj 2 (by simp only [holes, List.cons_append, List.nil_append]; exact rfl) ?_
  refine zac ?_
  refine zam rfl rfl rfl (op_boxa 0 rfl (ev1 rfl) rfl) (by simp only [upd, za, zaa]; exact rfl) ?_
  refine zam rfl rfl rfl (zaq 1 rfl zr31 rfl) (by simp only [upd, za, zaa]; exact rfl) ?_
  refine zae ?_
  refine dbody_defer (l0 := []) rfl rfl rfl rfl rfl hs0 ?_
  refine zae ⟨_, _, _, 2, ev1 rfl, Nat.le_trans hs0 (by decide), rfl, ?_⟩
  have hs1 : s0.M.length ≤ 2 := Nat.le_trans hs0 (by decide)
  refine dbody_end rfl hs0 ?_
  refine zaf ?_
  refine zac ?_
  refine zab rfl rfl rfl (zas rfl tb29 (ev1 rfl) rfl (zao _)) ?_
  refine walk_p rfl (dop_callP [] [] [] rfl (ev1 rfl) (ec (ev1 rfl) en) rfl rfl (chOf_no f hf) rfl rfl rfl rfl rfl rfl) rfl ?_
  refine kdef (dturn_caught [] [] rfl rfl rfl (sites1_caught _) rfl rfl rfl rfl rfl) ?_
  refine kend0 (rs1 rfl (rv_1 tb31 rfl rfl rfl)) rfl ?_
  rfl
set_option maxRecDepth 4000 in
set_option maxHeartbeats 1000000 in
theorem sit_all (f : FrM) (hf : frB f = true) : DFun Tryz.prog 26 [.val (.agg (frC f).toArray), .slf 1 0 []] [] (.farr 0 (faG (fun i => (f.st i).inn) (fun i : Nat => (i : Int)) [rowI []] 0 9).2) [.fam (faG (fun i => (f.st i).inn) (fun i : Nat => (i : Int)) [rowI []] 0 9).1] := by
  refine dcalls_body (N := 47) 0 (by kernel_rfl) Tryz.func26 rfl rfl rfl (by simp only [fr0, Nat.zero_add, Nat.reduceAdd]; exact rfl) rfl fun s0 hs0 => ?_
  refine dbody_seq rfl hs0 ?_
  refine zaj 2 (by simp only [holes, List.cons_append, List.nil_append]; exact rfl) ?_
  refine zac ?_
  refine zam rfl rfl rfl (op_boxa 0 rfl (ev1 rfl) rfl) (by simp only [upd, za, zaa]; exact rfl) ?_
  refine zam rfl rfl rfl (zaq 1 rfl zr31 rfl) (by simp only [upd, za, zaa]; exact rfl) ?_
  refine zae ?_
  refine dbody_defer (l0 := []) rfl rfl rfl rfl rfl hs0 ?_
  refine zae ⟨_, _, _, 2, ev1 rfl, Nat.le_trans hs0 (by decide), rfl, ?_⟩
  have hs1 : s0.M.length ≤ 2 := Nat.le_trans hs0 (by decide)
  refine dbody_end rfl hs0 ?_
  refine zaf ?_
  refine zaj 1 (by simp only [holes, List.cons_append, List.nil_append]; exact rfl) ?_
  refine zac ?_
  refine zab rfl rfl rfl (zas rfl tb29 (ev1 rfl) rfl (zao _)) ?_
  refine zam rfl rfl rfl (zah [] [] [2] rfl (ev1 rfl) (ec (ev1 rfl) en) rfl rfl (chOf_ok f hf) rfl rfl rfl rfl rfl rfl) (by simp only [upd, za, zaa]; exact rfl) ?_
  refine zab rfl rfl rfl (zad (.inr rfl) (ev1 rfl)) ?_
  refine zae ?_
  refine zaf ?_
  refine zaf ?_
  refine zac ?_
  refine zab rfl rfl rfl (zad (.inl rfl) (ev1 rfl)) ?_
  refine zab rfl rfl rfl (op_len rfl sl31 (ev1 rfl)) ?_
  refine zab rfl rfl rfl (zb rfl (ev1 rfl) (ev1 rfl)) ?_
  refine zae ?_
  refine dwp_if_t rfl (rfl) ?_
  refine zaf ?_
  refine zaf ?_
  refine zaj 1 (by simp only [holes, List.cons_append, List.nil_append]; exact rfl) ?_
  refine zac ?_
  refine zab rfl rfl rfl (zad (.inl rfl) (ev1 rfl)) ?_
  refine zam rfl rfl rfl (zah [2] [] [3] rfl (ev1 rfl) (ec (ev1 rfl) en) rfl rfl (regd_d _) rfl rfl rfl rfl rfl rfl) (by simp only [upd, za, zaa]; exact rfl) ?_
  refine zae ?_
  refine zat ?_
  refine dwp_adoptm 1 3 1 rfl (by simp only [List.cons_append, List.nil_append, za, zaa, List.length_cons, List.length_nil, Nat.zero_add, Nat.reduceAdd]; exact rfl) ?_
  refine dwp_hole ?_
  refine dwp_fam 5 rfl (by simp only [List.cons_append, List.nil_append, za, zaa]; exact rfl) ?_
  refine dwp_absc 1 0 5 rfl rfl rfl rfl (by simp only [List.cons_append, List.nil_append, za, zaa]; exact rfl) ?_
  refine dwp_hole ?_
  simp only [List.cons_append, List.nil_append]
  refine dwp_rf (FL := [(4, _)]) (st := .ready) (pe := none) [6, 1, 5, 3, 2] [] [] 6 rfl rfl (ev1 rfl) rfl (subF_lk ⟨rfl, trivial⟩) rfl rfl rfl (rd_sites f [rowI []] 0 rfl) rfl rfl rfl rfl rfl rfl rfl (by simp) (fun e => ?_) (fun c e => ?_)
  · simp only [upd, za, zaa]
    refine zaf ?_
    refine zac ?_
    refine zab rfl rfl rfl (zav rfl tb31 (ev1 rfl) rfl rfl) ?_
    refine zax rfl rfl (op_stm rfl tb31 (ev1 rfl) (ev1 rfl) (fun s v h => by cases h <;> exact ⟨rfl, rfl⟩) rfl (by first | decide | exact Nat.le_of_ble_eq_true rfl | simp)) (by simp only [upd, za, zaa]; exact rfl) ?_
    refine zae ?_
    refine zau ?_
    refine kdef (dturn_idle [] [] rfl rfl (sites1_idle) rfl rfl rfl rfl rfl) ?_
    refine kend [5] (rs1 rfl (rv_m tb31 rfl rfl rfl)) rfl rfl ?_ ⟨rfl, trivial⟩
    rfl
  · cases e
set_option maxRecDepth 4000 in
set_option maxHeartbeats 1000000 in
theorem sit_some (f : FrM) (l : List Int) (hf : frB f = true) (h0 : l.length ≠ 0) (hl : l.length ≤ 1000) : DFun Tryz.prog 26 [.val (.agg (frC f).toArray), .slf 1 l.length (l.flatMap inI)] [] (.farr 0 (faG (fun i => inS f (l.getD i 0)) (fun i : Nat => l.getD i 0) [rowI []] 0 l.length).2) [.fam (faG (fun i => inS f (l.getD i 0)) (fun i : Nat => l.getD i 0) [rowI []] 0 l.length).1] := by
  refine dcalls_body (N := 47) 0 (by kernel_rfl) Tryz.func26 rfl rfl rfl (by simp only [fr0, Nat.zero_add, Nat.reduceAdd]; exact rfl) rfl fun s0 hs0 => ?_
  refine dbody_seq rfl hs0 ?_
  refine zaj 2 (by simp only [holes, List.cons_append, List.nil_append]; exact rfl) ?_
  refine zac ?_
  refine zam rfl rfl rfl (op_boxa 0 rfl (ev1 rfl) rfl) (by simp only [upd, za, zaa]; exact rfl) ?_
  refine zam rfl rfl rfl (zaq 1 rfl zr31 rfl) (by simp only [upd, za, zaa]; exact rfl) ?_
  refine zae ?_
  refine dbody_defer (l0 := []) rfl rfl rfl rfl rfl hs0 ?_
  refine zae ⟨_, _, _, 2, ev1 rfl, Nat.le_trans hs0 (by decide), rfl, ?_⟩
  have hs1 : s0.M.length ≤ 2 := Nat.le_trans hs0 (by decide)
  refine dbody_end rfl hs0 ?_
  refine zaf ?_
  refine zaj 1 (by simp only [holes, List.cons_append, List.nil_append]; exact rfl) ?_
  refine zac ?_
  refine zab rfl rfl rfl (zas rfl tb29 (ev1 rfl) rfl (zao _)) ?_
  refine zam rfl rfl rfl (zah [] [] [2] rfl (ev1 rfl) (ec (ev1 rfl) en) rfl rfl (chOf_ok f hf) rfl rfl rfl rfl rfl rfl) (by simp only [upd, za, zaa]; exact rfl) ?_
  refine zab rfl rfl rfl (zad (.inr rfl) (ev1 rfl)) ?_
  refine zae ?_
  refine zaf ?_
  refine zaf ?_
  refine zac ?_
  refine zab rfl rfl rfl (zad (.inl rfl) (ev1 rfl)) ?_
  refine zab rfl rfl rfl (op_len rfl sl31 (ev1 rfl)) ?_
  refine zab rfl rfl rfl (zb rfl (ev1 rfl) (ev1 rfl)) ?_
  refine zae ?_
  refine dwp_if_f rfl (by rw [beq_eq_false_iff_ne]; omega) ?_
  refine zak ?_
  refine zaf ?_
  refine zaf ?_
  refine dwp_adoptm 1 3 1 rfl (by simp only [List.cons_append, List.nil_append, za, zaa, List.length_cons, List.length_nil, Nat.zero_add, Nat.reduceAdd]; exact rfl) ?_
  refine dwp_hole ?_
  refine dwp_fam 4 rfl (by simp only [List.cons_append, List.nil_append, za, zaa, List.length_cons, List.length_nil, Nat.zero_add, Nat.reduceAdd]; exact rfl) ?_
  refine dwp_absc 1 0 4 rfl rfl rfl rfl (by simp only [List.cons_append, List.nil_append, za, zaa, List.length_cons, List.length_nil, Nat.zero_add, Nat.reduceAdd]; exact rfl) ?_
  refine zac ?_
  refine zab rfl rfl rfl (zad (.inl rfl) (ev1 rfl)) ?_
  refine zab rfl rfl rfl (op_len rfl sl31 (ev1 rfl)) ?_
  refine zab rfl rfl rfl (zad (.inl rfl) (ev1 rfl)) ?_
  refine zae ?_
  refine zat ?_
  refine dwp_loopS ⟨hs1, rfl⟩ (α := Nat) (fun k => [(25, .val (.int .i64 (k : Int)))]) [(4, _), (5, _), (23, _), (24, _)] (fun k => [(1, .mix 31 [.farr 4 (faG (fun i => inS f (l.getD i 0)) (fun i : Nat => l.getD i 0) [rowI []] 0 k).2]), (4, .fam (faG (fun i => inS f (l.getD i 0)) (fun i : Nat => l.getD i 0) [rowI []] 0 k).1)]) [_, .hole, _, _, .hole] (fun k => k ≤ l.length) (fun k => l.length - k) 0 [0, 1, 2, 3, 4] (by omega) rfl ⟨rfl, rfl, rfl, rfl, trivial⟩ ⟨rfl, trivial⟩ ⟨rfl, rfl, rfl, rfl, rfl, trivial⟩ ?_
  intro k hx
  simp only [upd, za, zaa, List.cons_append, List.nil_append]
  have hk := hx
  have hrow := faG_row (p := fun i => inS f (l.getD i 0)) (g := fun i : Nat => l.getD i 0) (Bs := [rowI []]) (q := 0) rfl k
  have hgl := glTo_len (fun i => inS f (l.getD i 0)) (fun i : Nat => l.getD i 0) k
  refine zaf ?_
  refine zac ?_
  refine zab rfl rfl rfl (op_lss rfl (ev1 rfl) (ev1 rfl)) ?_
  refine zae ?_
  refine zaf ?_
  refine zaw rfl (fun c2 => ?_) (fun c2 => ?_)
  · try simp only [decide_eq_true_eq, decide_eq_false_iff_not, beq_iff_eq, bne_iff_ne, beq_eq_false_iff_ne, bne_eq_false_iff_eq, Bool.not_eq_true', Bool.not_eq_false', Bool.and_eq_true, Bool.or_eq_true, Bool.or_eq_false_iff, ne_eq, Decidable.not_not, Int.not_lt, Int.not_le] at c2
    refine zak ?_
    refine zaf ?_
    refine zat ?_
    refine zaf ?_
    have hek : l.getD k 0 = l[k] := by rw [List.getD_eq_getElem?_getD, List.getElem?_eq_getElem (by omega)]; rfl
    refine zac ?_
    refine zab rfl rfl rfl (op_ixsr (j := k) rfl sl31 (ev1 rfl) (ev1 rfl) (fun _ => rfl) (by decide) (by omega) (by omega)) ?_
    refine zab rfl rfl rfl (op_ldod rfl tb3 (ev1 rfl) rfl) ?_
    refine zab rfl rfl rfl (zad (.inr rfl) (ev1 rfl)) ?_
    refine zae ?_
    refine zaf ?_
    by_cases hss : isS l[k] = true
    · refine zac ?_
      refine zab rfl rfl rfl (zad (.inl rfl) (ev1 rfl)) ?_
      refine zab rfl rfl rfl ((zah [] [] [] rfl (ev1 rfl) (ec (ev1 rfl) en) rfl rfl (isSite_d _) rfl rfl rfl rfl rfl rfl).cast (d' := .val (.bool true)) (by rw [hss])) ?_
      refine zab rfl rfl rfl (zad (.inl rfl) (ev1 rfl)) ?_
      refine zai (zar (b := true) rfl rfl rfl) rfl rfl rfl (zad (.inl rfl) (ev1 rfl)) (by simp only [upd, za, zaa]; exact rfl) ?_
      refine zai (zar (b := true) rfl rfl rfl) rfl rfl rfl (zad (.inl rfl) (ev1 rfl)) (by simp only [upd, za, zaa]; exact rfl) ?_
      refine zai (zar (b := true) rfl rfl rfl) rfl rfl rfl (op_nc rfl (ev2 rfl) (fun s v h => by cases h; exact ⟨_, rfl⟩)) (by simp only [upd, za, zaa]; exact rfl) ?_
      refine zai (zar (b := true) rfl rfl rfl) rfl rfl rfl (zap rfl fo101_0 (ev2 rfl)) (by simp only [upd, za, zaa]; exact rfl) ?_
      refine zai (zar (b := true) rfl rfl rfl) rfl rfl rfl (zap rfl fo29_3 (ev2 rfl)) (by simp only [upd, za, zaa]; exact rfl) ?_
      refine zai (zar (b := true) rfl rfl rfl) rfl rfl rfl (op_ixl rfl ar27 (ev2 rfl) (ev2 rfl) (fun _ => by have := isS_iff.1 hss; omega)) (by simp only [upd, za, zaa]; exact rfl) ?_
      refine zai (zar (b := true) rfl rfl rfl) rfl rfl rfl (zap rfl fo26_0 (ev2 rfl)) (by simp only [upd, za, zaa]; exact rfl) ?_
      refine zai (zar (b := true) rfl rfl rfl) rfl rfl rfl (op_ldo rfl tb4 (ev2 rfl) rfl (frC_inp (j := (l[k]).toNat) (by omega) (by have := isS_iff.1 hss; omega))) (by simp only [upd, za, zaa]; exact rfl) ?_
      refine zab rfl rfl rfl (zaz rfl (ev1 rfl) (ev3 rfl (fun _ => rfl))) ?_
      refine zae ?_
      refine zaw rfl (fun c2 => ?_) (fun c2 => ?_)
      · refine zaj 2 (by simp only [holes, List.cons_append, List.nil_append]; exact rfl) ?_
        refine zac ?_
        refine zab rfl rfl rfl (zav rfl tb31 (ev1 rfl) rfl rfl) ?_
        refine zab rfl rfl rfl (zad (.inl rfl) (ev1 rfl)) ?_
        refine zab rfl rfl rfl (op_bs (ps := [(0, .tmp 42)]) rfl sl31 zr3 rfl (vc (ev1 rfl) vn) rfl (by decide) (by decide)) ?_
        refine zam rfl rfl rfl (op_appF (j1 := 5) (j2 := 6) rfl rfl sl31 zr3 rfl (ev1 rfl) (ev1 rfl) rfl (hrow) rfl rfl rfl (fun _ => rfl) (fun _ => ⟨by omega, by omega⟩)) (by simp only [upd, za, zaa]; exact rfl) ?_
        refine zax rfl rfl (op_stm rfl tb31 (ev1 rfl) (ev1 rfl) (fun s v h => by cases h <;> exact ⟨rfl, rfl⟩) rfl (by first | decide | exact Nat.le_of_ble_eq_true rfl | simp)) (by simp only [upd, za, zaa]; exact rfl) ?_
        refine zae ?_
        refine zac ?_
        refine zab rfl rfl rfl (op_add' rfl (ev1 rfl) (ev1 rfl) (fun _ => IntWalk.i64_in _ (by omega))) ?_
        refine zab rfl rfl rfl (zad (.inl rfl) (ev1 rfl)) ?_
        refine zae ?_
        have hpk : (fun i => inS f (l.getD i 0)) k = true := by show inS f (l.getD k 0) = true; rw [hek]; unfold inS; rw [hss]; exact c2
        refine ⟨k + 1, [0, 1, 2, 3, 4], by omega, by simp only []; omega, rfl, ⟨rfl, rfl, rfl, rfl, rfl, trivial⟩, ⟨rfl, by rw [faG_yes (p := fun i => inS f (l.getD i 0)) hpk]; rfl, rfl, rfl, by rw [faG_yes (p := fun i => inS f (l.getD i 0)) hpk, hek, ← rowI_add]; rfl, trivial⟩⟩
      · refine zak ?_
        refine zac ?_
        refine zab rfl rfl rfl (op_add' rfl (ev1 rfl) (ev1 rfl) (fun _ => IntWalk.i64_in _ (by omega))) ?_
        refine zab rfl rfl rfl (zad (.inl rfl) (ev1 rfl)) ?_
        refine zae ?_
        have hpk : (fun i => inS f (l.getD i 0)) k = false := by show inS f (l.getD k 0) = false; rw [hek]; unfold inS; rw [hss]; exact c2
        refine ⟨k + 1, [0, 1, 2, 3, 4], by omega, by simp only []; omega, rfl, ⟨rfl, rfl, rfl, rfl, rfl, trivial⟩, ⟨rfl, by rw [faG_no (p := fun i => inS f (l.getD i 0)) hpk]; rfl, rfl, rfl, by rw [faG_no (p := fun i => inS f (l.getD i 0)) hpk]; rfl, trivial⟩⟩
    · refine zac ?_
      refine zab rfl rfl rfl (zad (.inl rfl) (ev1 rfl)) ?_
      refine zab rfl rfl rfl ((zah [] [] [] rfl (ev1 rfl) (ec (ev1 rfl) en) rfl rfl (isSite_d _) rfl rfl rfl rfl rfl rfl).cast (d' := .val (.bool false)) (by rw [show isS l[k] = false by simpa using hss])) ?_
      refine zab rfl rfl rfl (zad (.inl rfl) (ev1 rfl)) ?_
      refine zag (zar (b := false) rfl rfl rfl) rfl rfl rfl (zal (d := .junk)) ?_
      refine zag (zar (b := false) rfl rfl rfl) rfl rfl rfl (zal (d := .junk)) ?_
      refine zag (zar (b := false) rfl rfl rfl) rfl rfl rfl (zal (d := .junk)) ?_
      refine zag (zar (b := false) rfl rfl rfl) rfl rfl rfl (zal (d := .junk)) ?_
      refine zag (zar (b := false) rfl rfl rfl) rfl rfl rfl (zal (d := .junk)) ?_
      refine zag (zar (b := false) rfl rfl rfl) rfl rfl rfl (zal (d := .junk)) ?_
      refine zag (zar (b := false) rfl rfl rfl) rfl rfl rfl (zal (d := .junk)) ?_
      refine zag (zar (b := false) rfl rfl rfl) rfl rfl rfl (zal (d := .val (.bool false))) ?_
      refine zab rfl rfl rfl (zaz rfl (ev1 rfl) (ev3 rfl id)) ?_
      refine zae ?_
      refine dwp_if_f rfl (rfl) ?_
      refine zak ?_
      refine zac ?_
      refine zab rfl rfl rfl (op_add' rfl (ev1 rfl) (ev1 rfl) (fun _ => IntWalk.i64_in _ (by omega))) ?_
      refine zab rfl rfl rfl (zad (.inl rfl) (ev1 rfl)) ?_
      refine zae ?_
      have hpk : (fun i => inS f (l.getD i 0)) k = false := by show inS f (l.getD k 0) = false; rw [hek]; unfold inS; rw [show isS l[k] = false by simpa using hss]; rfl
      refine ⟨k + 1, [0, 1, 2, 3, 4], by omega, by simp only []; omega, rfl, ⟨rfl, rfl, rfl, rfl, rfl, trivial⟩, ⟨rfl, by rw [faG_no (p := fun i => inS f (l.getD i 0)) hpk]; rfl, rfl, rfl, by rw [faG_no (p := fun i => inS f (l.getD i 0)) hpk]; rfl, trivial⟩⟩
  · try simp only [decide_eq_true_eq, decide_eq_false_iff_not, beq_iff_eq, bne_iff_ne, beq_eq_false_iff_ne, bne_eq_false_iff_eq, Bool.not_eq_true', Bool.not_eq_false', Bool.and_eq_true, Bool.or_eq_true, Bool.or_eq_false_iff, ne_eq, Decidable.not_not, Int.not_lt, Int.not_le] at c2
    refine dwp_exit ?_
    refine zaf ?_
    refine zac ?_
    refine zab rfl rfl rfl (zav rfl tb31 (ev1 rfl) rfl rfl) ?_
    refine zax rfl rfl (op_stm rfl tb31 (ev1 rfl) (ev1 rfl) (fun s v h => by cases h <;> exact ⟨rfl, rfl⟩) rfl (by first | decide | exact Nat.le_of_ble_eq_true rfl | simp)) (by simp only [upd, za, zaa]; exact rfl) ?_
    refine zae ?_
    refine zau ?_
    obtain rfl : k = l.length := by omega
    refine kdef (dturn_idle [] [] rfl rfl (sites1_idle) rfl rfl rfl rfl rfl) ?_
    refine kend [4] (rs1 rfl (rv_m tb31 rfl rfl rfl)) rfl rfl ?_ ⟨rfl, trivial⟩
    rfl
end Go.Proofs.YtnjnhghafjlmbaaGreat
namespace Go.Proofs.YtnjnhghafjlmbaaGreat
set_option linter.unusedVariables false
set_option linter.unusedSimpArgs false
open Go.RowKit
theorem eq61 {a b : I3} : eqT Tryz.prog 9 61 (idc a) (idc b) = some (eqI a b) := by kernel_rfl
theorem fo61_0 : fdO Tryz.prog 61 0 = some 0 := by kernel_rfl
theorem fo61_1 : fdO Tryz.prog 61 1 = some 1 := by kernel_rfl
theorem fo61_2 : fdO Tryz.prog 61 2 = some 2 := by kernel_rfl
theorem gd61 : Tryz.prog.eqGuardType Tryz.prog.depth 61 = false := by kernel_rfl
theorem tb61 : tyB Tryz.prog 61 = some (true, 3) := by kernel_rfl
set_option maxRecDepth 4000 in
set_option maxHeartbeats 1000000 in
theorem isNaN_u64 (n : Int) : DFun Tryz.prog 168 [.val (.int .u64 n)] [] (.val (.bool false)) [] := by
  refine zba (N := 6) 0 (by kernel_rfl) Tryz.func168 rfl rfl rfl (by simp only [fr0, Nat.zero_add, Nat.reduceAdd]; exact rfl) rfl fun s0 hs0 => ?_
  refine zaf ?_
  refine zac ?_
  refine zab rfl rfl rfl (zad (.inr rfl) (ev1 rfl)) ?_
  refine zae ?_
  refine zaf ?_
  refine zac ?_
  refine zab rfl rfl rfl (zad (.inl rfl) (ev1 rfl)) ?_
  refine zab rfl rfl rfl (zad (.inl rfl) (ev1 rfl)) ?_
  refine zab rfl rfl rfl (op_neq rfl (ev1 rfl) (ev1 rfl)) ?_
  refine zab rfl rfl rfl (zad (.inr rfl) (ev1 rfl)) ?_
  refine zae ?_
  refine zau ?_
  refine kend0 (rs1 rfl (rv_t rfl)) rfl ?_
  simp
set_option maxRecDepth 4000 in
set_option maxHeartbeats 1000000 in
theorem cmp_u64 (x y : Int) : DFun Tryz.prog 155 [.val (.int .u64 x), .val (.int .u64 y)] [] (.val (.int .i64 (cmpI x y))) [] := by
  refine zba (N := 20) 0 (by kernel_rfl) Tryz.func155 rfl rfl rfl (by simp only [fr0, Nat.zero_add, Nat.reduceAdd]; exact rfl) rfl fun s0 hs0 => ?_
  refine zaf ?_
  refine zac ?_
  refine zab rfl rfl rfl (zad (.inr rfl) (ev1 rfl)) ?_
  refine zae ?_
  refine zaf ?_
  refine zac ?_
  refine zab rfl rfl rfl (zad (.inl rfl) (ev1 rfl)) ?_
  refine zab rfl rfl rfl (zah [] [] [] rfl (ev1 rfl) (ec (ev1 rfl) en) rfl rfl (isNaN_u64 _) rfl rfl rfl rfl rfl rfl) ?_
  refine zab rfl rfl rfl (zad (.inr rfl) (ev1 rfl)) ?_
  refine zae ?_
  refine zaf ?_
  refine zac ?_
  refine zab rfl rfl rfl (zad (.inl rfl) (ev1 rfl)) ?_
  refine zab rfl rfl rfl (zah [] [] [] rfl (ev1 rfl) (ec (ev1 rfl) en) rfl rfl (isNaN_u64 _) rfl rfl rfl rfl rfl rfl) ?_
  refine zab rfl rfl rfl (zad (.inr rfl) (ev1 rfl)) ?_
  refine zae ?_
  refine zaf ?_
  refine zaf ?_
  refine zac ?_
  refine zab rfl rfl rfl (zad (.inl rfl) (ev1 rfl)) ?_
  refine zae ?_
  refine dwp_if_f rfl (rfl) ?_
  refine zak ?_
  refine zaf ?_
  refine zaf ?_
  refine zac ?_
  refine zab rfl rfl rfl (zad (.inl rfl) (ev1 rfl)) ?_
  refine zae ?_
  refine dwp_if_f rfl (rfl) ?_
  refine zak ?_
  refine zaf ?_
  refine zaf ?_
  refine zac ?_
  refine zab rfl rfl rfl (zad (.inl rfl) (ev1 rfl)) ?_
  refine zab rfl rfl rfl (zad (.inl rfl) (ev1 rfl)) ?_
  refine zab rfl rfl rfl (op_lss rfl (ev1 rfl) (ev1 rfl)) ?_
  refine zae ?_
  refine zaw rfl (fun c3 => ?_) (fun c3 => ?_)
  · try simp only [decide_eq_true_eq, decide_eq_false_iff_not, beq_iff_eq, bne_iff_ne, beq_eq_false_iff_ne, bne_eq_false_iff_eq, Bool.not_eq_true', Bool.not_eq_false', Bool.and_eq_true, Bool.or_eq_true, Bool.or_eq_false_iff, ne_eq, Decidable.not_not, Int.not_lt, Int.not_le] at c3
    refine zaf ?_
    refine zac ?_
    refine zab rfl rfl rfl (zad (.inr rfl) (ev1 rfl)) ?_
    refine zae ?_
    refine zau ?_
    refine kend0 (rs1 rfl (rv_t rfl)) rfl ?_
    simp_all [cmpI]; try omega
  · try simp only [decide_eq_true_eq, decide_eq_false_iff_not, beq_iff_eq, bne_iff_ne, beq_eq_false_iff_ne, bne_eq_false_iff_eq, Bool.not_eq_true', Bool.not_eq_false', Bool.and_eq_true, Bool.or_eq_true, Bool.or_eq_false_iff, ne_eq, Decidable.not_not, Int.not_lt, Int.not_le] at c3
    refine zak ?_
    refine zaf ?_
    refine zaf ?_
    refine zac ?_
    refine zab rfl rfl rfl (zad (.inl rfl) (ev1 rfl)) ?_
    refine zab rfl rfl rfl (zad (.inl rfl) (ev1 rfl)) ?_
    refine zab rfl rfl rfl (op_gtr rfl (ev1 rfl) (ev1 rfl)) ?_
    refine zae ?_
    refine zaw rfl (fun c4 => ?_) (fun c4 => ?_)
    · try simp only [decide_eq_true_eq, decide_eq_false_iff_not, beq_iff_eq, bne_iff_ne, beq_eq_false_iff_ne, bne_eq_false_iff_eq, Bool.not_eq_true', Bool.not_eq_false', Bool.and_eq_true, Bool.or_eq_true, Bool.or_eq_false_iff, ne_eq, Decidable.not_not, Int.not_lt, Int.not_le] at c4
      refine zaf ?_
      refine zac ?_
      refine zab rfl rfl rfl (zad (.inr rfl) (ev1 rfl)) ?_
      refine zae ?_
      refine zau ?_
      refine kend0 (rs1 rfl (rv_t rfl)) rfl ?_
      simp_all [cmpI]; try omega
    · try simp only [decide_eq_true_eq, decide_eq_false_iff_not, beq_iff_eq, bne_iff_ne, beq_eq_false_iff_ne, bne_eq_false_iff_eq, Bool.not_eq_true', Bool.not_eq_false', Bool.and_eq_true, Bool.or_eq_true, Bool.or_eq_false_iff, ne_eq, Decidable.not_not, Int.not_lt, Int.not_le] at c4
      refine zak ?_
      refine zaf ?_
      refine zac ?_
      refine zab rfl rfl rfl (zad (.inr rfl) (ev1 rfl)) ?_
      refine zae ?_
      refine zau ?_
      refine kend0 (rs1 rfl (rv_t rfl)) rfl ?_
      simp_all [cmpI]; try omega
set_option maxRecDepth 4000 in
set_option maxHeartbeats 1000000 in
theorem isNaN_i64 (n : Int) : DFun Tryz.prog 169 [.val (.int .i64 n)] [] (.val (.bool false)) [] := by
  refine zba (N := 6) 0 (by kernel_rfl) Tryz.func169 rfl rfl rfl (by simp only [fr0, Nat.zero_add, Nat.reduceAdd]; exact rfl) rfl fun s0 hs0 => ?_
  refine zaf ?_
  refine zac ?_
  refine zab rfl rfl rfl (zad (.inr rfl) (ev1 rfl)) ?_
  refine zae ?_
  refine zaf ?_
  refine zac ?_
  refine zab rfl rfl rfl (zad (.inl rfl) (ev1 rfl)) ?_
  refine zab rfl rfl rfl (zad (.inl rfl) (ev1 rfl)) ?_
  refine zab rfl rfl rfl (op_neq rfl (ev1 rfl) (ev1 rfl)) ?_
  refine zab rfl rfl rfl (zad (.inr rfl) (ev1 rfl)) ?_
  refine zae ?_
  refine zau ?_
  refine kend0 (rs1 rfl (rv_t rfl)) rfl ?_
  simp
set_option maxRecDepth 4000 in
set_option maxHeartbeats 1000000 in
theorem cmp_i64 (x y : Int) : DFun Tryz.prog 156 [.val (.int .i64 x), .val (.int .i64 y)] [] (.val (.int .i64 (cmpI x y))) [] := by
  refine zba (N := 20) 0 (by kernel_rfl) Tryz.func156 rfl rfl rfl (by simp only [fr0, Nat.zero_add, Nat.reduceAdd]; exact rfl) rfl fun s0 hs0 => ?_
  refine zaf ?_
  refine zac ?_
  refine zab rfl rfl rfl (zad (.inr rfl) (ev1 rfl)) ?_
  refine zae ?_
  refine zaf ?_
  refine zac ?_
  refine zab rfl rfl rfl (zad (.inl rfl) (ev1 rfl)) ?_
  refine zab rfl rfl rfl (zah [] [] [] rfl (ev1 rfl) (ec (ev1 rfl) en) rfl rfl (isNaN_i64 _) rfl rfl rfl rfl rfl rfl) ?_
  refine zab rfl rfl rfl (zad (.inr rfl) (ev1 rfl)) ?_
  refine zae ?_
  refine zaf ?_
  refine zac ?_
  refine zab rfl rfl rfl (zad (.inl rfl) (ev1 rfl)) ?_
  refine zab rfl rfl rfl (zah [] [] [] rfl (ev1 rfl) (ec (ev1 rfl) en) rfl rfl (isNaN_i64 _) rfl rfl rfl rfl rfl rfl) ?_
  refine zab rfl rfl rfl (zad (.inr rfl) (ev1 rfl)) ?_
  refine zae ?_
  refine zaf ?_
  refine zaf ?_
  refine zac ?_
  refine zab rfl rfl rfl (zad (.inl rfl) (ev1 rfl)) ?_
  refine zae ?_
  refine dwp_if_f rfl (rfl) ?_
  refine zak ?_
  refine zaf ?_
  refine zaf ?_
  refine zac ?_
  refine zab rfl rfl rfl (zad (.inl rfl) (ev1 rfl)) ?_
  refine zae ?_
  refine dwp_if_f rfl (rfl) ?_
  refine zak ?_
  refine zaf ?_
  refine zaf ?_
  refine zac ?_
  refine zab rfl rfl rfl (zad (.inl rfl) (ev1 rfl)) ?_
  refine zab rfl rfl rfl (zad (.inl rfl) (ev1 rfl)) ?_
  refine zab rfl rfl rfl (op_lss rfl (ev1 rfl) (ev1 rfl)) ?_
  refine zae ?_
  refine zaw rfl (fun c3 => ?_) (fun c3 => ?_)
  · try simp only [decide_eq_true_eq, decide_eq_false_iff_not, beq_iff_eq, bne_iff_ne, beq_eq_false_iff_ne, bne_eq_false_iff_eq, Bool.not_eq_true', Bool.not_eq_false', Bool.and_eq_true, Bool.or_eq_true, Bool.or_eq_false_iff, ne_eq, Decidable.not_not, Int.not_lt, Int.not_le] at c3
    refine zaf ?_
    refine zac ?_
    refine zab rfl rfl rfl (zad (.inr rfl) (ev1 rfl)) ?_
    refine zae ?_
    refine zau ?_
    refine kend0 (rs1 rfl (rv_t rfl)) rfl ?_
    simp_all [cmpI]; try omega
  · try simp only [decide_eq_true_eq, decide_eq_false_iff_not, beq_iff_eq, bne_iff_ne, beq_eq_false_iff_ne, bne_eq_false_iff_eq, Bool.not_eq_true', Bool.not_eq_false', Bool.and_eq_true, Bool.or_eq_true, Bool.or_eq_false_iff, ne_eq, Decidable.not_not, Int.not_lt, Int.not_le] at c3
    refine zak ?_
    refine zaf ?_
    refine zaf ?_
    refine zac ?_
    refine zab rfl rfl rfl (zad (.inl rfl) (ev1 rfl)) ?_
    refine zab rfl rfl rfl (zad (.inl rfl) (ev1 rfl)) ?_
    refine zab rfl rfl rfl (op_gtr rfl (ev1 rfl) (ev1 rfl)) ?_
    refine zae ?_
    refine zaw rfl (fun c4 => ?_) (fun c4 => ?_)
    · try simp only [decide_eq_true_eq, decide_eq_false_iff_not, beq_iff_eq, bne_iff_ne, beq_eq_false_iff_ne, bne_eq_false_iff_eq, Bool.not_eq_true', Bool.not_eq_false', Bool.and_eq_true, Bool.or_eq_true, Bool.or_eq_false_iff, ne_eq, Decidable.not_not, Int.not_lt, Int.not_le] at c4
      refine zaf ?_
      refine zac ?_
      refine zab rfl rfl rfl (zad (.inr rfl) (ev1 rfl)) ?_
      refine zae ?_
      refine zau ?_
      refine kend0 (rs1 rfl (rv_t rfl)) rfl ?_
      simp_all [cmpI]; try omega
    · try simp only [decide_eq_true_eq, decide_eq_false_iff_not, beq_iff_eq, bne_iff_ne, beq_eq_false_iff_ne, bne_eq_false_iff_eq, Bool.not_eq_true', Bool.not_eq_false', Bool.and_eq_true, Bool.or_eq_true, Bool.or_eq_false_iff, ne_eq, Decidable.not_not, Int.not_lt, Int.not_le] at c4
      refine zak ?_
      refine zaf ?_
      refine zac ?_
      refine zab rfl rfl rfl (zad (.inr rfl) (ev1 rfl)) ?_
      refine zae ?_
      refine zau ?_
      refine kend0 (rs1 rfl (rv_t rfl)) rfl ?_
      simp_all [cmpI]; try omega
set_option maxRecDepth 4000 in
set_option maxHeartbeats 1000000 in
theorem or_d (l : List Int) : DFun Tryz.prog 154 [.slf 1 (l).length ((l).flatMap inI)] [] (.val (.int .i64 (orL l))) [] := by
  refine zba (N := 18) 0 (by kernel_rfl) Tryz.func154 rfl rfl rfl (by simp only [fr0, Nat.zero_add, Nat.reduceAdd]; exact rfl) rfl fun s0 hs0 => ?_
  refine dwp_len (t := 0) rfl fun hl0 hL0 => ?_
  refine zaf ?_
  refine zac ?_
  refine zab rfl rfl rfl (zad (.inr rfl) (ev1 rfl)) ?_
  refine zae ?_
  refine zaf ?_
  refine zac ?_
  refine zab rfl rfl rfl (zad (.inr rfl) (ev1 rfl)) ?_
  refine zae ?_
  refine zaf ?_
  refine zaf ?_
  refine zac ?_
  refine zab rfl rfl rfl (zad (.inl rfl) (ev1 rfl)) ?_
  refine zab rfl rfl rfl (op_len rfl sl31 (ev1 rfl)) ?_
  refine zab rfl rfl rfl (zad (.inl rfl) (ev1 rfl)) ?_
  refine zae ?_
  refine zat ?_
  refine dwp_loopS ⟨hs0, rfl⟩ (α := Nat) (fun k => [(8, .val (.int .i64 (k : Int)))]) [(3, _), (6, _), (7, _)] (fun k => []) [] (fun k => k ≤ l.length ∧ orL l = orL (l.drop k)) (fun k => l.length - k) 0 [] (by simp) rfl ⟨rfl, rfl, rfl, trivial⟩ ⟨rfl, trivial⟩ trivial ?_
  intro k hx
  simp only [upd, za, zaa, List.cons_append, List.nil_append]
  obtain ⟨hk, he⟩ := hx
  refine zaf ?_
  refine zac ?_
  refine zab rfl rfl rfl (op_lss rfl (ev1 rfl) (ev1 rfl)) ?_
  refine zae ?_
  refine zaf ?_
  refine zaw rfl (fun c1 => ?_) (fun c1 => ?_)
  · try simp only [decide_eq_true_eq, decide_eq_false_iff_not, beq_iff_eq, bne_iff_ne, beq_eq_false_iff_ne, bne_eq_false_iff_eq, Bool.not_eq_true', Bool.not_eq_false', Bool.and_eq_true, Bool.or_eq_true, Bool.or_eq_false_iff, ne_eq, Decidable.not_not, Int.not_lt, Int.not_le] at c1
    refine zak ?_
    refine zaf ?_
    refine zat ?_
    refine zaf ?_
    refine zac ?_
    refine zab rfl rfl rfl (op_ixsr rfl sl31 (ev1 rfl) (ev1 rfl) (fun _ => rfl) (by decide) rfl (by omega)) ?_
    refine zab rfl rfl rfl (op_ldod rfl tb3 (ev1 rfl) rfl) ?_
    refine zab rfl rfl rfl (zad (.inr rfl) (ev1 rfl)) ?_
    refine zae ?_
    refine zaf ?_
    refine zac ?_
    refine zab rfl rfl rfl (zad (.inl rfl) (ev1 rfl)) ?_
    refine zab rfl rfl rfl (zad (.inl rfl) (ev1 rfl)) ?_
    refine zab rfl rfl rfl (op_neq rfl (ev1 rfl) (ev1 rfl)) ?_
    refine zae ?_
    refine zaw rfl (fun c2 => ?_) (fun c2 => ?_)
    · try simp only [decide_eq_true_eq, decide_eq_false_iff_not, beq_iff_eq, bne_iff_ne, beq_eq_false_iff_ne, bne_eq_false_iff_eq, Bool.not_eq_true', Bool.not_eq_false', Bool.and_eq_true, Bool.or_eq_true, Bool.or_eq_false_iff, ne_eq, Decidable.not_not, Int.not_lt, Int.not_le] at c2
      refine zaf ?_
      refine zac ?_
      refine zab rfl rfl rfl (zad (.inl rfl) (ev1 rfl)) ?_
      refine zab rfl rfl rfl (zad (.inr rfl) (ev1 rfl)) ?_
      refine zae ?_
      refine zau ?_
      refine kend0 (rs1 rfl (rv_t rfl)) rfl ?_
      rw [he, orL_drop (by omega)]; simp_all
    · try simp only [decide_eq_true_eq, decide_eq_false_iff_not, beq_iff_eq, bne_iff_ne, beq_eq_false_iff_ne, bne_eq_false_iff_eq, Bool.not_eq_true', Bool.not_eq_false', Bool.and_eq_true, Bool.or_eq_true, Bool.or_eq_false_iff, ne_eq, Decidable.not_not, Int.not_lt, Int.not_le] at c2
      refine zak ?_
      refine zac ?_
      refine zab rfl rfl rfl (op_add' rfl (ev1 rfl) (ev1 rfl) (fun _ => IntWalk.i64_in _ (by omega))) ?_
      refine zab rfl rfl rfl (zad (.inl rfl) (ev1 rfl)) ?_
      refine zae ?_
      refine ⟨k + 1, [], ⟨by omega, by rw [he, orL_drop (by omega)]; simp_all⟩, by simp only []; omega, rfl, ⟨rfl, rfl, rfl, rfl, trivial⟩, trivial⟩
  · try simp only [decide_eq_true_eq, decide_eq_false_iff_not, beq_iff_eq, bne_iff_ne, beq_eq_false_iff_ne, bne_eq_false_iff_eq, Bool.not_eq_true', Bool.not_eq_false', Bool.and_eq_true, Bool.or_eq_true, Bool.or_eq_false_iff, ne_eq, Decidable.not_not, Int.not_lt, Int.not_le] at c1
    refine dwp_exit ?_
    refine zaf ?_
    refine zac ?_
    refine zab rfl rfl rfl (zad (.inl rfl) (ev1 rfl)) ?_
    refine zab rfl rfl rfl (zad (.inr rfl) (ev1 rfl)) ?_
    refine zae ?_
    refine zau ?_
    refine kend0 (rs1 rfl (rv_t rfl)) rfl ?_
    rw [he, List.drop_of_length_le (by omega)]; rfl
set_option maxRecDepth 4000 in
set_option maxHeartbeats 1000000 in
theorem isNumber_d (n : Int) : DFun Tryz.prog 124 [.val (.int .u64 n)] [] (.val (.bool (isNum n))) [] := by
  refine zba (N := 9) 0 (by kernel_rfl) Tryz.func124 rfl rfl rfl (by simp only [fr0, Nat.zero_add, Nat.reduceAdd]; exact rfl) rfl fun s0 hs0 => ?_
  refine zaf ?_
  refine zac ?_
  refine zab rfl rfl rfl (zad (.inr rfl) (ev1 rfl)) ?_
  refine zae ?_
  refine zaf ?_
  refine zac ?_
  refine zab rfl rfl rfl (zad (.inl rfl) (ev1 rfl)) ?_
  refine zab rfl rfl rfl (op_geq rfl (ev1 rfl) (ev1 rfl)) ?_
  refine zab rfl rfl rfl (zad (.inl rfl) (ev1 rfl)) ?_
  refine zag (zar rfl rfl rfl) rfl rfl rfl (zad (.inl rfl) (ev1 rfl)) ?_
  refine zag (zar rfl rfl rfl) rfl rfl rfl (op_leq rfl (ev2 rfl) (ev1 rfl)) ?_
  refine zab rfl rfl rfl (zaz rfl (ev1 rfl) (ev3 rfl id)) ?_
  refine zab rfl rfl rfl (zad (.inr rfl) (ev1 rfl)) ?_
  refine zae ?_
  refine zau ?_
  refine kend0 (rs1 rfl (rv_t rfl)) rfl ?_
  rfl
set_option maxRecDepth 4000 in
set_option maxHeartbeats 1000000 in
theorem idSite_d (n : Int) : DFun Tryz.prog 125 [.val (.int .i64 n)] [] (.val (.bool (isSt n))) [] := by
  refine zba (N := 9) 0 (by kernel_rfl) Tryz.func125 rfl rfl rfl (by simp only [fr0, Nat.zero_add, Nat.reduceAdd]; exact rfl) rfl fun s0 hs0 => ?_
  refine zaf ?_
  refine zac ?_
  refine zab rfl rfl rfl (zad (.inr rfl) (ev1 rfl)) ?_
  refine zae ?_
  refine zaf ?_
  refine zac ?_
  refine zab rfl rfl rfl (zad (.inl rfl) (ev1 rfl)) ?_
  refine zab rfl rfl rfl (op_geq rfl (ev1 rfl) (ev1 rfl)) ?_
  refine zab rfl rfl rfl (zad (.inl rfl) (ev1 rfl)) ?_
  refine zag (zar rfl rfl rfl) rfl rfl rfl (zad (.inl rfl) (ev1 rfl)) ?_
  refine zag (zar rfl rfl rfl) rfl rfl rfl (op_leq rfl (ev2 rfl) (ev1 rfl)) ?_
  refine zab rfl rfl rfl (zaz rfl (ev1 rfl) (ev3 rfl id)) ?_
  refine zab rfl rfl rfl (zad (.inr rfl) (ev1 rfl)) ?_
  refine zae ?_
  refine zau ?_
  refine kend0 (rs1 rfl (rv_t rfl)) rfl ?_
  rfl
set_option maxRecDepth 4000 in
set_option maxHeartbeats 1000000 in
theorem idCheck_d (i : I3) : DFun Tryz.prog 109 [.val (.agg (idc i).toArray)] [] (.val (.int .i64 (errOr (mayR i) 210))) [] := by
  refine zba (N := 19) 0 (by kernel_rfl) Tryz.func109 rfl rfl rfl (by simp only [fr0, Nat.zero_add, Nat.reduceAdd]; exact rfl) rfl fun s0 hs0 => ?_
  refine zaf ?_
  refine zaj 1 (by simp only [holes, List.cons_append, List.nil_append]; exact rfl) ?_
  refine zac ?_
  refine zam rfl rfl rfl (op_boxa 0 rfl (ev1 rfl) rfl) (by simp only [upd, za, zaa]; exact rfl) ?_
  refine zab rfl rfl rfl (zad (.inr rfl) (ev1 rfl)) ?_
  refine zae ?_
  refine zaf ?_
  refine zaf ?_
  refine zac ?_
  refine zab rfl rfl rfl (zap rfl fo61_0 (ev1 rfl)) ?_
  refine zab rfl rfl rfl (op_ldo rfl tb22 (ev1 rfl) rfl rfl) ?_
  refine zab rfl rfl rfl (zah [] [] [] rfl (ev1 rfl) (ec (ev1 rfl) en) rfl rfl (isNumber_d _) rfl rfl rfl rfl rfl rfl) ?_
  refine zab rfl rfl rfl (op_not rfl (ev1 rfl)) ?_
  refine zab rfl rfl rfl (zad (.inl rfl) (ev1 rfl)) ?_
  refine zag (zan rfl rfl rfl) rfl rfl rfl (zap rfl fo61_1 (ev1 rfl)) ?_
  refine zag (zan rfl rfl rfl) rfl rfl rfl (op_ldo rfl tb3 (ev2 rfl) rfl rfl) ?_
  refine zag (zan rfl rfl rfl) rfl rfl rfl (zah [] [] [] rfl (ev1 rfl) (ec (ev2 rfl) en) rfl rfl (idSite_d _) rfl rfl rfl rfl rfl rfl) ?_
  refine zag (zan rfl rfl rfl) rfl rfl rfl (op_not rfl (ev2 rfl)) ?_
  refine zab rfl rfl rfl (op_or rfl (ev1 rfl) (ev3 rfl id)) ?_
  refine zab rfl rfl rfl (zad (.inl rfl) (ev1 rfl)) ?_
  refine zag (zan rfl rfl rfl) rfl rfl rfl (zap rfl fo61_2 (ev1 rfl)) ?_
  refine zag (zan rfl rfl rfl) rfl rfl rfl (op_ldo rfl tb22 (ev2 rfl) rfl rfl) ?_
  refine zag (zan rfl rfl rfl) rfl rfl rfl (zah [] [] [] rfl (ev1 rfl) (ec (ev2 rfl) en) rfl rfl (isNumber_d _) rfl rfl rfl rfl rfl rfl) ?_
  refine zag (zan rfl rfl rfl) rfl rfl rfl (op_not rfl (ev2 rfl)) ?_
  refine zab rfl rfl rfl (op_or rfl (ev1 rfl) (ev3 rfl id)) ?_
  refine zae ?_
  refine zaw rfl (fun c1 => ?_) (fun c1 => ?_)
  · try simp only [decide_eq_true_eq, decide_eq_false_iff_not, beq_iff_eq, bne_iff_ne, beq_eq_false_iff_ne, bne_eq_false_iff_eq, Bool.not_eq_true', Bool.not_eq_false', Bool.and_eq_true, Bool.or_eq_true, Bool.or_eq_false_iff, ne_eq, Decidable.not_not, Int.not_lt, Int.not_le] at c1
    refine zaf ?_
    refine zac ?_
    refine zab rfl rfl rfl (zad (.inr rfl) (ev1 rfl)) ?_
    refine zae ?_
    refine zau ?_
    refine kend0 (rs1 rfl (rv_t rfl)) rfl ?_
    cases h1 : isNum i.t <;> cases h2 : isSt i.s <;> cases h3 : isNum i.q <;> simp_all [mayR, errOr]
  · try simp only [decide_eq_true_eq, decide_eq_false_iff_not, beq_iff_eq, bne_iff_ne, beq_eq_false_iff_ne, bne_eq_false_iff_eq, Bool.not_eq_true', Bool.not_eq_false', Bool.and_eq_true, Bool.or_eq_true, Bool.or_eq_false_iff, ne_eq, Decidable.not_not, Int.not_lt, Int.not_le] at c1
    refine zak ?_
    refine zaf ?_
    refine zac ?_
    refine zab rfl rfl rfl (zad (.inr rfl) (ev1 rfl)) ?_
    refine zae ?_
    refine zau ?_
    refine kend0 (rs1 rfl (rv_t rfl)) rfl ?_
    cases h1 : isNum i.t <;> cases h2 : isSt i.s <;> cases h3 : isNum i.q <;> simp_all [mayR, errOr]
set_option maxRecDepth 4000 in
set_option maxHeartbeats 1000000 in
theorem compare_d (a b : I3) : DFun Tryz.prog 111 [.val (.agg (idc a).toArray), .val (.agg (idc b).toArray)] [] (.val (.int .i64 (cmpR a b))) [] := by
  refine zba (N := 25) 0 (by kernel_rfl) Tryz.func111 rfl rfl rfl (by simp only [fr0, Nat.zero_add, Nat.reduceAdd]; exact rfl) rfl fun s0 hs0 => ?_
  refine zaf ?_
  refine zaj 2 (by simp only [holes, List.cons_append, List.nil_append]; exact rfl) ?_
  refine zac ?_
  refine zam rfl rfl rfl (op_boxa 0 rfl (ev1 rfl) rfl) (by simp only [upd, za, zaa]; exact rfl) ?_
  refine zam rfl rfl rfl (op_boxa 1 rfl (ev1 rfl) rfl) (by simp only [upd, za, zaa]; exact rfl) ?_
  refine zab rfl rfl rfl (zad (.inr rfl) (ev1 rfl)) ?_
  refine zae ?_
  refine zaf ?_
  refine zaf ?_
  refine zac ?_
  refine zab rfl rfl rfl (zas rfl tb61 (ev1 rfl) rfl rfl) ?_
  refine zab rfl rfl rfl (zas rfl tb61 (ev1 rfl) rfl rfl) ?_
  refine zab rfl rfl rfl (op_eqr eq61 rfl gd61 tb61 (ev1 rfl) (ev1 rfl)) ?_
  refine zae ?_
  refine zaw rfl (fun c1 => ?_) (fun c1 => ?_)
  · try simp only [decide_eq_true_eq, decide_eq_false_iff_not, beq_iff_eq, bne_iff_ne, beq_eq_false_iff_ne, bne_eq_false_iff_eq, Bool.not_eq_true', Bool.not_eq_false', Bool.and_eq_true, Bool.or_eq_true, Bool.or_eq_false_iff, ne_eq, Decidable.not_not, Int.not_lt, Int.not_le] at c1
    refine zaf ?_
    refine zac ?_
    refine zab rfl rfl rfl (zad (.inr rfl) (ev1 rfl)) ?_
    refine zae ?_
    refine zau ?_
    refine kend0 (rs1 rfl (rv_t rfl)) rfl ?_
    simp_all [cmpR, eqI]
  · try simp only [decide_eq_true_eq, decide_eq_false_iff_not, beq_iff_eq, bne_iff_ne, beq_eq_false_iff_ne, bne_eq_false_iff_eq, Bool.not_eq_true', Bool.not_eq_false', Bool.and_eq_true, Bool.or_eq_true, Bool.or_eq_false_iff, ne_eq, Decidable.not_not, Int.not_lt, Int.not_le] at c1
    refine zak ?_
    refine zaf ?_
    refine dwp_draw [([], []), ([0], []), ([], []), ([1], []), ([], []), ([], []), ([0], []), ([], []), ([1], []), ([], []), ([], []), ([0], []), ([], []), ([1], []), ([], []), ([], []), ([], []), ([], [])] mixed (by kernel_rfl) ?_
    refine lex_r rfl rfl (zap rfl fo61_0 (ev1 rfl)) ?_
    refine lex_r rfl rfl (op_ldo rfl tb22 (ev1 rfl) rfl rfl) ?_
    refine lex_r rfl rfl (zap rfl fo61_0 (ev1 rfl)) ?_
    refine lex_r rfl rfl (op_ldo rfl tb22 (ev1 rfl) rfl rfl) ?_
    refine lex_r rfl rfl (zah [] [] [] rfl (ev1 rfl) (ec (ev1 rfl) (ec (ev1 rfl) en)) rfl rfl (cmp_u64 _ _) rfl rfl rfl rfl rfl rfl) ?_
    refine lex_r rfl rfl (zap rfl fo61_1 (ev1 rfl)) ?_
    refine lex_r rfl rfl (op_ldo rfl tb3 (ev1 rfl) rfl rfl) ?_
    refine lex_r rfl rfl (zap rfl fo61_1 (ev1 rfl)) ?_
    refine lex_r rfl rfl (op_ldo rfl tb3 (ev1 rfl) rfl rfl) ?_
    refine lex_r rfl rfl (zah [] [] [] rfl (ev1 rfl) (ec (ev1 rfl) (ec (ev1 rfl) en)) rfl rfl (cmp_i64 _ _) rfl rfl rfl rfl rfl rfl) ?_
    refine lex_r rfl rfl (zap rfl fo61_2 (ev1 rfl)) ?_
    refine lex_r rfl rfl (op_ldo rfl tb22 (ev1 rfl) rfl rfl) ?_
    refine lex_r rfl rfl (zap rfl fo61_2 (ev1 rfl)) ?_
    refine lex_r rfl rfl (op_ldo rfl tb22 (ev1 rfl) rfl rfl) ?_
    refine lex_r rfl rfl (zah [] [] [] rfl (ev1 rfl) (ec (ev1 rfl) (ec (ev1 rfl) en)) rfl rfl (cmp_u64 _ _) rfl rfl rfl rfl rfl rfl) ?_
    refine lex_r rfl rfl (op_bs (ps := [(0, .tmp 12), (1, .tmp 17), (2, .tmp 22)]) rfl sl31 zr3 rfl (vc (ev1 rfl) (vc (ev1 rfl) (vc (ev1 rfl) vn))) rfl (by decide) (by decide)) ?_
    refine lex_r rfl rfl (zah [] [] [] rfl (ev1 rfl) (ec (ev1 rfl) en) rfl rfl (or_d [_, _, _]) rfl rfl rfl rfl rfl rfl) ?_
    refine lex_r rfl rfl (zad (.inr rfl) (ev1 rfl)) ?_
    refine lex_nil ?_
    refine zau ?_
    refine kend0 (rs1 rfl (rv_t rfl)) rfl ?_
    simp_all [cmpR, eqI]
set_option maxRecDepth 4000 in
set_option maxHeartbeats 1000000 in
theorem idLess_d (a b : I3) : DFun Tryz.prog 93 [.val (.agg (idc a).toArray), .val (.agg (idc b).toArray)] [] (.val (.bool (lessR a b))) [] := by
  refine zba (N := 9) 0 (by kernel_rfl) Tryz.func93 rfl rfl rfl (by simp only [fr0, Nat.zero_add, Nat.reduceAdd]; exact rfl) rfl fun s0 hs0 => ?_
  refine zaf ?_
  refine zaj 2 (by simp only [holes, List.cons_append, List.nil_append]; exact rfl) ?_
  refine zac ?_
  refine zam rfl rfl rfl (op_boxa 0 rfl (ev1 rfl) rfl) (by simp only [upd, za, zaa]; exact rfl) ?_
  refine zam rfl rfl rfl (op_boxa 1 rfl (ev1 rfl) rfl) (by simp only [upd, za, zaa]; exact rfl) ?_
  refine zab rfl rfl rfl (zad (.inr rfl) (ev1 rfl)) ?_
  refine zae ?_
  refine zaf ?_
  refine zac ?_
  refine zab rfl rfl rfl (zas rfl tb61 (ev1 rfl) rfl rfl) ?_
  refine zab rfl rfl rfl (zas rfl tb61 (ev1 rfl) rfl rfl) ?_
  refine zab rfl rfl rfl (zah [] [] [] rfl (ev1 rfl) (ec (ev1 rfl) (ec (ev1 rfl) en)) rfl rfl (compare_d _ _) rfl rfl rfl rfl rfl rfl) ?_
  refine zab rfl rfl rfl (op_lss rfl (ev1 rfl) (ev1 rfl)) ?_
  refine zab rfl rfl rfl (zad (.inr rfl) (ev1 rfl)) ?_
  refine zae ?_
  refine zau ?_
  refine kend0 (rs1 rfl (rv_t rfl)) rfl ?_
  rw [← lessC_R]
  rfl
end Go.Proofs.YtnjnhghafjlmbaaGreat
namespace Go.Proofs.YtnjnhghafjlmbaaGreat
set_option linter.unusedVariables false
set_option linter.unusedSimpArgs false
open Go.RowKit
theorem eq63 {a b : C4} : eqT Tryz.prog 9 63 (c4 a) (c4 b) = some (decide (a = b)) := by
  rw [← eqC_iff]; kernel_rfl
theorem fo66_0 : fdO Tryz.prog 66 0 = some 0 := by kernel_rfl
theorem fo66_1 : fdO Tryz.prog 66 1 = some 1 := by kernel_rfl
theorem fo66_2 : fdO Tryz.prog 66 2 = some 2 := by kernel_rfl
theorem gd63 : Tryz.prog.eqGuardType Tryz.prog.depth 63 = false := by kernel_rfl
theorem sl64 : slE Tryz.prog 64 = some (63, 4, 4) := by kernel_rfl
theorem tb63 : tyB Tryz.prog 63 = some (true, 4) := by kernel_rfl
theorem tb64 : tyB Tryz.prog 64 = some (false, 1) := by kernel_rfl
set_option maxRecDepth 4000 in
set_option maxHeartbeats 1000000 in
theorem side_d (n : Int) : DFun Tryz.prog 166 [.val (.int .i64 n)] [] (.val (.bool (siD n))) [] := by
  refine zba (N := 9) 0 (by kernel_rfl) Tryz.func166 rfl rfl rfl (by simp only [fr0, Nat.zero_add, Nat.reduceAdd]; exact rfl) rfl fun s0 hs0 => ?_
  refine zaf ?_
  refine zac ?_
  refine zab rfl rfl rfl (zad (.inr rfl) (ev1 rfl)) ?_
  refine zae ?_
  refine zaf ?_
  refine zac ?_
  refine zab rfl rfl rfl (zad (.inl rfl) (ev1 rfl)) ?_
  refine zab rfl rfl rfl (op_geq rfl (ev1 rfl) (ev1 rfl)) ?_
  refine zab rfl rfl rfl (zad (.inl rfl) (ev1 rfl)) ?_
  refine zag (zar rfl rfl rfl) rfl rfl rfl (zad (.inl rfl) (ev1 rfl)) ?_
  refine zag (zar rfl rfl rfl) rfl rfl rfl (op_leq rfl (ev2 rfl) (ev1 rfl)) ?_
  refine zab rfl rfl rfl (zaz rfl (ev1 rfl) (ev3 rfl id)) ?_
  refine zab rfl rfl rfl (zad (.inr rfl) (ev1 rfl)) ?_
  refine zae ?_
  refine zau ?_
  refine kend0 (rs1 rfl (rv_t rfl)) rfl ?_
  rfl
set_option maxRecDepth 4000 in
set_option maxHeartbeats 1000000 in
theorem drawn_d (n : Int) : DFun Tryz.prog 127 [.val (.int .i64 n)] [] (.val (.bool (drB n))) [] := by
  refine zba (N := 9) 0 (by kernel_rfl) Tryz.func127 rfl rfl rfl (by simp only [fr0, Nat.zero_add, Nat.reduceAdd]; exact rfl) rfl fun s0 hs0 => ?_
  refine zaf ?_
  refine zac ?_
  refine zab rfl rfl rfl (zad (.inr rfl) (ev1 rfl)) ?_
  refine zae ?_
  refine zaf ?_
  refine zac ?_
  refine zab rfl rfl rfl (zad (.inl rfl) (ev1 rfl)) ?_
  refine zab rfl rfl rfl (op_geq rfl (ev1 rfl) (ev1 rfl)) ?_
  refine zab rfl rfl rfl (zad (.inl rfl) (ev1 rfl)) ?_
  refine zag (zar rfl rfl rfl) rfl rfl rfl (zad (.inl rfl) (ev1 rfl)) ?_
  refine zag (zar rfl rfl rfl) rfl rfl rfl (op_leq rfl (ev2 rfl) (ev1 rfl)) ?_
  refine zab rfl rfl rfl (zaz rfl (ev1 rfl) (ev3 rfl id)) ?_
  refine zab rfl rfl rfl (zad (.inr rfl) (ev1 rfl)) ?_
  refine zae ?_
  refine zau ?_
  refine kend0 (rs1 rfl (rv_t rfl)) rfl ?_
  rfl
theorem eqI_dec (a b : I3) : eqI a b = decide (a = b) := by
  rw [Bool.eq_iff_iff, eqI_iff]; simp
set_option maxRecDepth 4000 in
set_option maxHeartbeats 1000000 in
theorem equalC (l r : List C4) : DFun Tryz.prog 167 [.slf 4 l.length (l.flatMap c4), .slf 4 r.length (r.flatMap c4)] [] (.val (.bool (decide (l = r)))) [] := by
  refine zba (N := 26) 0 (by kernel_rfl) Tryz.func167 rfl rfl rfl (by simp only [fr0, Nat.zero_add, Nat.reduceAdd]; exact rfl) rfl fun s0 hs0 => ?_
  refine dwp_len (t := 0) rfl fun hl0 hL0 => ?_
  refine dwp_len (t := 1) rfl fun hl1 hL1 => ?_
  refine zaf ?_
  refine zac ?_
  refine zab rfl rfl rfl (zad (.inr rfl) (ev1 rfl)) ?_
  refine zae ?_
  refine zaf ?_
  refine zaf ?_
  refine zac ?_
  refine zab rfl rfl rfl (zad (.inl rfl) (ev1 rfl)) ?_
  refine zab rfl rfl rfl (op_len rfl sl64 (ev1 rfl)) ?_
  refine zab rfl rfl rfl (zad (.inl rfl) (ev1 rfl)) ?_
  refine zab rfl rfl rfl (op_len rfl sl64 (ev1 rfl)) ?_
  refine zab rfl rfl rfl (op_neq rfl (ev1 rfl) (ev1 rfl)) ?_
  refine zae ?_
  refine zaw rfl (fun c1 => ?_) (fun c1 => ?_)
  · try simp only [decide_eq_true_eq, decide_eq_false_iff_not, beq_iff_eq, bne_iff_ne, beq_eq_false_iff_ne, bne_eq_false_iff_eq, Bool.not_eq_true', Bool.not_eq_false', Bool.and_eq_true, Bool.or_eq_true, Bool.or_eq_false_iff, ne_eq, Decidable.not_not, Int.not_lt, Int.not_le] at c1
    refine zaf ?_
    refine zac ?_
    refine zab rfl rfl rfl (zad (.inr rfl) (ev1 rfl)) ?_
    refine zae ?_
    refine zau ?_
    refine kend0 (rs1 rfl (rv_t rfl)) rfl ?_
    have hne : l ≠ r := fun e => by subst e; exact c1 rfl
    rw [decide_eq_false hne]
  · try simp only [decide_eq_true_eq, decide_eq_false_iff_not, beq_iff_eq, bne_iff_ne, beq_eq_false_iff_ne, bne_eq_false_iff_eq, Bool.not_eq_true', Bool.not_eq_false', Bool.and_eq_true, Bool.or_eq_true, Bool.or_eq_false_iff, ne_eq, Decidable.not_not, Int.not_lt, Int.not_le] at c1
    have hlen : l.length = r.length := by omega
    refine zak ?_
    refine zaf ?_
    refine zaf ?_
    refine zac ?_
    refine zab rfl rfl rfl (zad (.inl rfl) (ev1 rfl)) ?_
    refine zab rfl rfl rfl (op_len rfl sl64 (ev1 rfl)) ?_
    refine zab rfl rfl rfl (zad (.inl rfl) (ev1 rfl)) ?_
    refine zae ?_
    refine zat ?_
    refine dwp_loopS ⟨hs0, rfl⟩ (α := Nat) (fun k => [(13, .val (.int .i64 (k : Int)))]) [(0, _), (1, _), (12, _)] (fun k => []) [] (fun k => k ≤ l.length ∧ l.take k = r.take k) (fun k => l.length - k) 0 [] (by simp) rfl ⟨rfl, rfl, rfl, trivial⟩ ⟨rfl, trivial⟩ trivial ?_
    intro k hx
    simp only [upd, za, zaa, List.cons_append, List.nil_append]
    obtain ⟨hk, he⟩ := hx
    refine zaf ?_
    refine zac ?_
    refine zab rfl rfl rfl (op_lss rfl (ev1 rfl) (ev1 rfl)) ?_
    refine zae ?_
    refine zaf ?_
    refine zaw rfl (fun c2 => ?_) (fun c2 => ?_)
    · try simp only [decide_eq_true_eq, decide_eq_false_iff_not, beq_iff_eq, bne_iff_ne, beq_eq_false_iff_ne, bne_eq_false_iff_eq, Bool.not_eq_true', Bool.not_eq_false', Bool.and_eq_true, Bool.or_eq_true, Bool.or_eq_false_iff, ne_eq, Decidable.not_not, Int.not_lt, Int.not_le] at c2
      refine zak ?_
      refine zaf ?_
      refine zat ?_
      refine zaf ?_
      refine zac ?_
      refine zab rfl rfl rfl (zad (.inl rfl) (ev1 rfl)) ?_
      refine zab rfl rfl rfl (zad (.inr rfl) (ev1 rfl)) ?_
      refine zae ?_
      refine zaf ?_
      refine dwp_draw [([], []), ([], []), ([], []), ([], []), ([], []), ([], []), ([], []), ([], []), ([], [])] mixed (by kernel_rfl) ?_
      refine lex_r rfl rfl (zad (.inl rfl) (ev1 rfl)) ?_
      refine lex_r rfl rfl (zad (.inl rfl) (ev1 rfl)) ?_
      refine lex_r rfl rfl (op_ixsr (j := k) rfl sl64 (ev1 rfl) (ev1 rfl) (fun _ => rfl) (by decide) (by omega) (by omega)) ?_
      refine lex_r rfl rfl (op_ldwd rfl tb63 (ev1 rfl) rfl) ?_
      refine lex_r rfl rfl (zad (.inl rfl) (ev1 rfl)) ?_
      refine lex_r rfl rfl (zad (.inl rfl) (ev1 rfl)) ?_
      refine lex_r rfl rfl (op_ixsr (j := k) rfl sl64 (ev1 rfl) (ev1 rfl) (fun _ => rfl) (by decide) (by omega) (by omega)) ?_
      refine lex_r rfl rfl (op_ldwd rfl tb63 (ev1 rfl) rfl) ?_
      refine lex_r rfl rfl (op_ner eq63 rfl gd63 tb63 (ev1 rfl) (ev1 rfl)) ?_
      refine lex_nil ?_
      refine zaw rfl (fun c2 => ?_) (fun c2 => ?_)
      · have c3 : l[k] ≠ r[k] := by simpa using c2
        refine zaf ?_
        refine zac ?_
        refine zab rfl rfl rfl (zad (.inr rfl) (ev1 rfl)) ?_
        refine zae ?_
        refine zau ?_
        refine kend0 (rs1 rfl (rv_t rfl)) rfl ?_
        have hne : l ≠ r := fun e => by subst e; exact c3 rfl
        rw [decide_eq_false hne]
      · have c3 : l[k] = r[k] := by simpa using c2
        refine zak ?_
        refine zac ?_
        refine zab rfl rfl rfl (op_add' rfl (ev1 rfl) (ev1 rfl) (fun _ => IntWalk.i64_in _ (by omega))) ?_
        refine zab rfl rfl rfl (zad (.inl rfl) (ev1 rfl)) ?_
        refine zae ?_
        refine ⟨k + 1, [], ⟨by omega, by rw [List.take_succ_eq_append_getElem (by omega), List.take_succ_eq_append_getElem (by omega), he, c3]⟩, by simp only []; omega, rfl, ⟨rfl, rfl, rfl, rfl, trivial⟩, trivial⟩
    · try simp only [decide_eq_true_eq, decide_eq_false_iff_not, beq_iff_eq, bne_iff_ne, beq_eq_false_iff_ne, bne_eq_false_iff_eq, Bool.not_eq_true', Bool.not_eq_false', Bool.and_eq_true, Bool.or_eq_true, Bool.or_eq_false_iff, ne_eq, Decidable.not_not, Int.not_lt, Int.not_le] at c2
      refine dwp_exit ?_
      refine zaf ?_
      refine zac ?_
      refine zab rfl rfl rfl (zad (.inr rfl) (ev1 rfl)) ?_
      refine zae ?_
      refine zau ?_
      refine kend0 (rs1 rfl (rv_t rfl)) rfl ?_
      have e : l = r := by
        have h := he
        rw [List.take_of_length_le (by omega), List.take_of_length_le (by omega)] at h
        exact h
      rw [decide_eq_true e]
theorem stCk {w h : Int} {l : List C4} : (((!siD w) || (!siD h)) || !((l.length : Int) == IntKind.i64.wrap (w * h))) = !stB w h l := by
  unfold stB
  cases h1 : siD w
  · rfl
  · cases h2 : siD h
    · rfl
    · have e : IntKind.i64.wrap (w * h) = w * h := IntWalk.i64_in _ (by
        unfold siD at h1 h2
        simp at h1 h2
        have a1 : 0 ≤ w * h := Int.mul_nonneg (by omega) (by omega)
        have a2 : w * h ≤ 8 * 8 := Int.mul_le_mul h1.2 h2.2 (by omega) (by omega)
        omega)
      rw [e]
      rw [Bool.eq_iff_iff]
      simp
set_option maxRecDepth 4000 in
set_option maxHeartbeats 1000000 in
theorem stCheck_d (w h : Int) (l : List C4) : DFun Tryz.prog 146 [.agg [iD w, iD h, pxD l]] [] (.val (.int .i64 (errOr (stB w h l) 190))) [] := by
  refine zba (N := 24) 0 (by kernel_rfl) Tryz.func146 rfl rfl rfl (by simp only [fr0, Nat.zero_add, Nat.reduceAdd]; exact rfl) rfl fun s0 hs0 => ?_
  refine zaf ?_
  refine zaj 1 (by simp only [holes, List.cons_append, List.nil_append]; exact rfl) ?_
  refine zac ?_
  refine zam rfl rfl rfl (op_boxam 0 rfl (ev1 rfl) rfl) (by simp only [upd, za, zaa]; exact rfl) ?_
  refine zab rfl rfl rfl (zad (.inr rfl) (ev1 rfl)) ?_
  refine zae ?_
  refine zaf ?_
  refine zaf ?_
  refine zac ?_
  refine zab rfl rfl rfl (zap rfl fo66_0 (ev1 rfl)) ?_
  refine zab rfl rfl rfl (zav rfl tb3 (ev1 rfl) rfl rfl) ?_
  refine zab rfl rfl rfl (zah [] [] [] rfl (ev1 rfl) (ec (ev1 rfl) en) rfl rfl (side_d _) rfl rfl rfl rfl rfl rfl) ?_
  refine zab rfl rfl rfl (op_not rfl (ev1 rfl)) ?_
  refine zab rfl rfl rfl (zad (.inl rfl) (ev1 rfl)) ?_
  refine zag (zan rfl rfl rfl) rfl rfl rfl (zap rfl fo66_1 (ev1 rfl)) ?_
  refine zag (zan rfl rfl rfl) rfl rfl rfl (zav rfl tb3 (ev2 rfl) rfl rfl) ?_
  refine zag (zan rfl rfl rfl) rfl rfl rfl (zah [] [] [] rfl (ev1 rfl) (ec (ev2 rfl) en) rfl rfl (side_d _) rfl rfl rfl rfl rfl rfl) ?_
  refine zag (zan rfl rfl rfl) rfl rfl rfl (op_not rfl (ev2 rfl)) ?_
  refine zab rfl rfl rfl (op_or rfl (ev1 rfl) (ev3 rfl id)) ?_
  refine zab rfl rfl rfl (zad (.inl rfl) (ev1 rfl)) ?_
  refine zag (zan rfl rfl rfl) rfl rfl rfl (zap rfl fo66_2 (ev1 rfl)) ?_
  refine zag (zan rfl rfl rfl) rfl rfl rfl (zav rfl tb64 (ev2 rfl) rfl rfl) ?_
  refine zag (zan rfl rfl rfl) rfl rfl rfl (op_len rfl sl64 (ev2 rfl)) ?_
  refine zag (zan rfl rfl rfl) rfl rfl rfl (zap rfl fo66_0 (ev1 rfl)) ?_
  refine zag (zan rfl rfl rfl) rfl rfl rfl (zav rfl tb3 (ev2 rfl) rfl rfl) ?_
  refine zag (zan rfl rfl rfl) rfl rfl rfl (zap rfl fo66_1 (ev1 rfl)) ?_
  refine zag (zan rfl rfl rfl) rfl rfl rfl (zav rfl tb3 (ev2 rfl) rfl rfl) ?_
  refine zag (zan rfl rfl rfl) rfl rfl rfl (op_mul rfl (ev2 rfl) (ev2 rfl)) ?_
  refine zag (zan rfl rfl rfl) rfl rfl rfl (op_neq rfl (ev2 rfl) (ev2 rfl)) ?_
  refine zab rfl rfl rfl (op_or rfl (ev1 rfl) (ev3 rfl id)) ?_
  refine zae ?_
  refine zaw rfl (fun c1 => ?_) (fun c1 => ?_)
  · have hb : stB w h l = false := notT (stCk.symm.trans c1)
    refine zaf ?_
    refine zac ?_
    refine zab rfl rfl rfl (zad (.inr rfl) (ev1 rfl)) ?_
    refine zae ?_
    refine zau ?_
    refine kend0 (rs1 rfl (rv_t rfl)) rfl ?_
    rw [hb]
    rfl
  · have hb : stB w h l = true := notF (stCk.symm.trans c1)
    refine zak ?_
    refine zaf ?_
    refine zac ?_
    refine zab rfl rfl rfl (zad (.inr rfl) (ev1 rfl)) ?_
    refine zae ?_
    refine zau ?_
    refine kend0 (rs1 rfl (rv_t rfl)) rfl ?_
    rw [hb]
    rfl
set_option maxRecDepth 4000 in
set_option maxHeartbeats 1000000 in
theorem stSame_d (w h w2 h2 : Int) (l r : List C4) : DFun Tryz.prog 148 [.agg [iD w, iD h, pxD l], .agg [iD w2, iD h2, pxD r]] [] (.val (.bool (((w == w2) && (h == h2)) && decide (l = r)))) [] := by
  refine zba (N := 24) 0 (by kernel_rfl) Tryz.func148 rfl rfl rfl (by simp only [fr0, Nat.zero_add, Nat.reduceAdd]; exact rfl) rfl fun s0 hs0 => ?_
  refine zaf ?_
  refine zaj 2 (by simp only [holes, List.cons_append, List.nil_append]; exact rfl) ?_
  refine zac ?_
  refine zam rfl rfl rfl (op_boxam 0 rfl (ev1 rfl) rfl) (by simp only [upd, za, zaa]; exact rfl) ?_
  refine zam rfl rfl rfl (op_boxam 1 rfl (ev1 rfl) rfl) (by simp only [upd, za, zaa]; exact rfl) ?_
  refine zab rfl rfl rfl (zad (.inr rfl) (ev1 rfl)) ?_
  refine zae ?_
  refine zaf ?_
  refine zac ?_
  refine zab rfl rfl rfl (zap rfl fo66_0 (ev1 rfl)) ?_
  refine zab rfl rfl rfl (zav rfl tb3 (ev1 rfl) rfl rfl) ?_
  refine zab rfl rfl rfl (zap rfl fo66_0 (ev1 rfl)) ?_
  refine zab rfl rfl rfl (zav rfl tb3 (ev1 rfl) rfl rfl) ?_
  refine zab rfl rfl rfl (zb rfl (ev1 rfl) (ev1 rfl)) ?_
  refine zab rfl rfl rfl (zad (.inl rfl) (ev1 rfl)) ?_
  refine zag (zar rfl rfl rfl) rfl rfl rfl (zap rfl fo66_1 (ev1 rfl)) ?_
  refine zag (zar rfl rfl rfl) rfl rfl rfl (zav rfl tb3 (ev2 rfl) rfl rfl) ?_
  refine zag (zar rfl rfl rfl) rfl rfl rfl (zap rfl fo66_1 (ev1 rfl)) ?_
  refine zag (zar rfl rfl rfl) rfl rfl rfl (zav rfl tb3 (ev2 rfl) rfl rfl) ?_
  refine zag (zar rfl rfl rfl) rfl rfl rfl (zb rfl (ev2 rfl) (ev2 rfl)) ?_
  refine zab rfl rfl rfl (zaz rfl (ev1 rfl) (ev3 rfl id)) ?_
  refine zab rfl rfl rfl (zad (.inl rfl) (ev1 rfl)) ?_
  refine zag (zar rfl rfl rfl) rfl rfl rfl (zap rfl fo66_2 (ev1 rfl)) ?_
  refine zag (zar rfl rfl rfl) rfl rfl rfl (zav rfl tb64 (ev2 rfl) rfl rfl) ?_
  refine zag (zar rfl rfl rfl) rfl rfl rfl (zap rfl fo66_2 (ev1 rfl)) ?_
  refine zag (zar rfl rfl rfl) rfl rfl rfl (zav rfl tb64 (ev2 rfl) rfl rfl) ?_
  refine zag (zar rfl rfl rfl) rfl rfl rfl (zah [] [] [] rfl (ev1 rfl) (ec (ev2 rfl) (ec (ev2 rfl) en)) rfl rfl (equalC _ _) rfl rfl rfl rfl rfl rfl) ?_
  refine zab rfl rfl rfl (zaz rfl (ev1 rfl) (ev3 rfl id)) ?_
  refine zab rfl rfl rfl (zad (.inr rfl) (ev1 rfl)) ?_
  refine zae ?_
  refine zau ?_
  refine kend0 (rs1 rfl (rv_t rfl)) rfl ?_
  rfl
end Go.Proofs.YtnjnhghafjlmbaaGreat
namespace Go.Proofs.YtnjnhghafjlmbaaGreat
set_option linter.unusedVariables false
set_option linter.unusedSimpArgs false
open Go.RowKit
theorem ar173 : arE Tryz.prog 173 = some (8, 4) := by kernel_rfl
theorem ar188 : arE Tryz.prog 188 = some (9, 4) := by kernel_rfl
theorem av188 : arV Tryz.prog 188 = some (9, 4) := by kernel_rfl
theorem fl164 : fdL Tryz.prog 164 = some [(0, 1), (1, 1), (2, 1), (3, 1)] := by kernel_rfl
theorem fl172 : fdL Tryz.prog 172 = some [(0, 1), (1, 1), (2, 1), (3, 1)] := by kernel_rfl
theorem fl61 : fdL Tryz.prog 61 = some [(0, 1), (1, 1), (2, 1)] := by kernel_rfl
theorem fl63 : fdL Tryz.prog 63 = some [(0, 1), (1, 1), (2, 1), (3, 1)] := by kernel_rfl
theorem fl66 : fdL Tryz.prog 66 = some [(0, 1), (1, 1), (2, 1)] := by kernel_rfl
theorem fo164_1 : fdO Tryz.prog 164 1 = some 1 := by kernel_rfl
theorem fo68_0 : fdO Tryz.prog 68 0 = some 0 := by kernel_rfl
theorem fo68_2 : fdO Tryz.prog 68 2 = some 4 := by kernel_rfl
theorem fo68_3 : fdO Tryz.prog 68 3 = some 5 := by kernel_rfl
theorem fo68_4 : fdO Tryz.prog 68 4 = some 6 := by kernel_rfl
theorem fo68_5 : fdO Tryz.prog 68 5 = some 7 := by kernel_rfl
theorem fo68_6 : fdO Tryz.prog 68 6 = some 8 := by kernel_rfl
theorem fo68_7 : fdO Tryz.prog 68 7 = some 9 := by kernel_rfl
theorem fo68_8 : fdO Tryz.prog 68 8 = some 13 := by kernel_rfl
theorem fo68_9 : fdO Tryz.prog 68 9 = some 16 := by kernel_rfl
theorem tb164 : tyB Tryz.prog 164 = some (true, 4) := by kernel_rfl
theorem tb173 : tyB Tryz.prog 173 = some (true, 32) := by kernel_rfl
theorem tb188 : tyB Tryz.prog 188 = some (true, 36) := by kernel_rfl
theorem tb66 : tyB Tryz.prog 66 = some (true, 3) := by kernel_rfl
theorem zr164 : zrC Tryz.prog 164 = some [.int .i64 0, .int .i64 0, .nilFunc, .nilFunc] := by kernel_rfl
theorem zr172 : zrC Tryz.prog 172 = some [.string ⟨#[]⟩, .nilFunc, .nilFunc, .nilFunc] := by kernel_rfl
theorem zr173 : zrC Tryz.prog 173 = some [.string ⟨#[]⟩, .nilFunc, .nilFunc, .nilFunc, .string ⟨#[]⟩, .nilFunc, .nilFunc, .nilFunc, .string ⟨#[]⟩, .nilFunc, .nilFunc, .nilFunc, .string ⟨#[]⟩, .nilFunc, .nilFunc, .nilFunc, .string ⟨#[]⟩, .nilFunc, .nilFunc, .nilFunc, .string ⟨#[]⟩, .nilFunc, .nilFunc, .nilFunc, .string ⟨#[]⟩, .nilFunc, .nilFunc, .nilFunc, .string ⟨#[]⟩, .nilFunc, .nilFunc, .nilFunc] := by kernel_rfl
theorem zr188 : zrC Tryz.prog 188 = some [.int .i64 0, .int .i64 0, .nilFunc, .nilFunc, .int .i64 0, .int .i64 0, .nilFunc, .nilFunc, .int .i64 0, .int .i64 0, .nilFunc, .nilFunc, .int .i64 0, .int .i64 0, .nilFunc, .nilFunc, .int .i64 0, .int .i64 0, .nilFunc, .nilFunc, .int .i64 0, .int .i64 0, .nilFunc, .nilFunc, .int .i64 0, .int .i64 0, .nilFunc, .nilFunc, .int .i64 0, .int .i64 0, .nilFunc, .nilFunc, .int .i64 0, .int .i64 0, .nilFunc, .nilFunc] := by kernel_rfl
theorem zr61 : zrC Tryz.prog 61 = some (idc zI3) := by kernel_rfl
theorem zr63 : zrC Tryz.prog 63 = some (c4 zC4) := by kernel_rfl
theorem zr66 : zrC Tryz.prog 66 = some [.int .i64 0, .int .i64 0, .slice none 0 0] := by kernel_rfl
def kndL : List D := [iD 0, iD 0, .val .nilFunc, .val .nilFunc, iD 63, iD 15, .fn (.func 157) [] [], .fn (.func 158) [] [], iD 63, iD 15, .fn (.func 157) [] [], .fn (.func 158) [] [], iD 47, iD 0, .fn (.func 159) [] [], .fn (.func 160) [] [], iD 47, iD 0, .fn (.func 161) [] [], .fn (.func 160) [] [], iD 51, iD 1020, .fn (.func 162) [] [], .fn (.func 163) [] [], iD 67, iD 0, .fn (.func 164) [] [], .fn (.func 165) [] [], iD 128, iD 0, .val .nilFunc, .val .nilFunc, iD 128, iD 0, .val .nilFunc, .val .nilFunc]
def fldL : List D := [.val (.string ⟨#[88]⟩), .fn (.func 126) [] [], .fn (.func 128) [] [], .fn (.func 129) [] [], .val (.string ⟨#[89]⟩), .fn (.func 130) [] [], .fn (.func 131) [] [], .fn (.func 132) [] [], .val (.string ⟨#[88, 50]⟩), .fn (.func 133) [] [], .fn (.func 134) [] [], .fn (.func 135) [] [], .val (.string ⟨#[89, 50]⟩), .fn (.func 136) [] [], .fn (.func 137) [] [], .fn (.func 138) [] [], .val (.string ⟨#[83, 105, 122, 101]⟩), .fn (.func 139) [] [], .fn (.func 140) [] [], .fn (.func 141) [] [], .val (.string ⟨#[67, 111, 108, 111, 114]⟩), .fn (.func 142) [] [], .fn (.func 143) [] [], .fn (.func 144) [] [], .val (.string ⟨#[83, 116, 97, 109, 112]⟩), .fn (.func 145) [] [], .fn (.func 147) [] [], .fn (.func 149) [] [], .val (.string ⟨#[84, 97, 114, 103, 101, 116]⟩), .fn (.func 151) [] [], .fn (.func 152) [] [], .fn (.func 153) [] []]
theorem wkSt0 : Wk (.val (.agg #[.int .i64 0, .int .i64 0, .slice none 0 0])) (.agg [iD 0, iD 0, pxD []]) := (Wk.vagg [.int .i64 0, .int .i64 0, .slice none 0 0]).trans (Wk.agg (WkL.cons (Wk.refl _) (WkL.cons (Wk.refl _) (WkL.cons (Wk.slf0 4) WkL.nil))))
set_option maxRecDepth 4000 in
set_option maxHeartbeats 1000000 in
theorem kinds_d : DFun Tryz.prog 123 [] [] (.agg kndL) [] := by
  refine zba (N := 10) 0 (by kernel_rfl) Tryz.func123 rfl rfl rfl (by simp only [fr0, Nat.zero_add, Nat.reduceAdd]; exact rfl) rfl fun s0 hs0 => ?_
  refine zaf ?_
  refine zaj 1 (by simp only [holes, List.cons_append, List.nil_append]; exact rfl) ?_
  refine zac ?_
  refine zam rfl rfl rfl (zaq 0 rfl zr188 rfl) (by simp only [upd, za, zaa]; exact rfl) ?_
  refine zae ?_
  refine zaf ?_
  refine zac ?_
  refine zab rfl rfl rfl (op_bldD (ps := [(0, .const (.int .i64 63)), (1, .const (.int .i64 15)), (2, .func 157), (3, .func 158)]) rfl fl164 zr164 (ec (ev1 rfl) (ec (ev1 rfl) (ec (ev1 rfl) (ec (ev1 rfl) en)))) rfl rfl rfl) ?_
  refine zab rfl rfl rfl (op_bldD (ps := [(0, .const (.int .i64 63)), (1, .const (.int .i64 15)), (2, .func 157), (3, .func 158)]) rfl fl164 zr164 (ec (ev1 rfl) (ec (ev1 rfl) (ec (ev1 rfl) (ec (ev1 rfl) en)))) rfl rfl rfl) ?_
  refine zab rfl rfl rfl (op_bldD (ps := [(0, .const (.int .i64 47)), (1, .const (.int .i64 0)), (2, .func 159), (3, .func 160)]) rfl fl164 zr164 (ec (ev1 rfl) (ec (ev1 rfl) (ec (ev1 rfl) (ec (ev1 rfl) en)))) rfl rfl rfl) ?_
  refine zab rfl rfl rfl (op_bldD (ps := [(0, .const (.int .i64 47)), (1, .const (.int .i64 0)), (2, .func 161), (3, .func 160)]) rfl fl164 zr164 (ec (ev1 rfl) (ec (ev1 rfl) (ec (ev1 rfl) (ec (ev1 rfl) en)))) rfl rfl rfl) ?_
  refine zab rfl rfl rfl (op_bldD (ps := [(0, .const (.int .i64 51)), (1, .const (.int .i64 1020)), (2, .func 162), (3, .func 163)]) rfl fl164 zr164 (ec (ev1 rfl) (ec (ev1 rfl) (ec (ev1 rfl) (ec (ev1 rfl) en)))) rfl rfl rfl) ?_
  refine zab rfl rfl rfl (op_bldD (ps := [(0, .const (.int .i64 67)), (1, .const (.int .i64 0)), (2, .func 164), (3, .func 165)]) rfl fl164 zr164 (ec (ev1 rfl) (ec (ev1 rfl) (ec (ev1 rfl) (ec (ev1 rfl) en)))) rfl rfl rfl) ?_
  refine zab rfl rfl rfl (op_build (ps := [(0, .const (.int .i64 128))]) rfl fl164 zr164 (vc (ev1 rfl) vn) rfl rfl) ?_
  refine zab rfl rfl rfl (op_build (ps := [(0, .const (.int .i64 128))]) rfl fl164 zr164 (vc (ev1 rfl) vn) rfl rfl) ?_
  refine zab rfl rfl rfl (op_bldaD (ps := [(1, .tmp 1), (2, .tmp 2), (3, .tmp 3), (4, .tmp 4), (5, .tmp 5), (6, .tmp 6), (7, .tmp 7), (8, .tmp 8)]) rfl ar188 zr188 (ec (ev1 rfl) (ec (ev1 rfl) (ec (ev1 rfl) (ec (ev1 rfl) (ec (ev1 rfl) (ec (ev1 rfl) (ec (ev1 rfl) (ec (ev1 rfl) en)))))))) rfl rfl rfl rfl) ?_
  refine zax rfl rfl (op_stam rfl tb188 (ev1 rfl) (ev1 rfl) rfl rfl rfl rfl) (by simp only [upd, za, zaa]; exact rfl) ?_
  refine zae ?_
  refine zau ?_
  refine kend0 (rs1 rfl (rv_mw tb188 rfl rfl rfl)) rfl ?_
  rfl
set_option maxRecDepth 4000 in
set_option maxHeartbeats 1000000 in
theorem fields_d : DFun Tryz.prog 110 [] [] (.agg fldL) [] := by
  refine zba (N := 10) 0 (by kernel_rfl) Tryz.func110 rfl rfl rfl (by simp only [fr0, Nat.zero_add, Nat.reduceAdd]; exact rfl) rfl fun s0 hs0 => ?_
  refine zaf ?_
  refine zaj 1 (by simp only [holes, List.cons_append, List.nil_append]; exact rfl) ?_
  refine zac ?_
  refine zam rfl rfl rfl (zaq 0 rfl zr173 rfl) (by simp only [upd, za, zaa]; exact rfl) ?_
  refine zae ?_
  refine zaf ?_
  refine zac ?_
  refine zab rfl rfl rfl (op_bldD (ps := [(0, .const (.string ⟨#[88]⟩)), (1, .func 126), (2, .func 128), (3, .func 129)]) rfl fl172 zr172 (ec (ev1 rfl) (ec (ev1 rfl) (ec (ev1 rfl) (ec (ev1 rfl) en)))) rfl rfl rfl) ?_
  refine zab rfl rfl rfl (op_bldD (ps := [(0, .const (.string ⟨#[89]⟩)), (1, .func 130), (2, .func 131), (3, .func 132)]) rfl fl172 zr172 (ec (ev1 rfl) (ec (ev1 rfl) (ec (ev1 rfl) (ec (ev1 rfl) en)))) rfl rfl rfl) ?_
  refine zab rfl rfl rfl (op_bldD (ps := [(0, .const (.string ⟨#[88, 50]⟩)), (1, .func 133), (2, .func 134), (3, .func 135)]) rfl fl172 zr172 (ec (ev1 rfl) (ec (ev1 rfl) (ec (ev1 rfl) (ec (ev1 rfl) en)))) rfl rfl rfl) ?_
  refine zab rfl rfl rfl (op_bldD (ps := [(0, .const (.string ⟨#[89, 50]⟩)), (1, .func 136), (2, .func 137), (3, .func 138)]) rfl fl172 zr172 (ec (ev1 rfl) (ec (ev1 rfl) (ec (ev1 rfl) (ec (ev1 rfl) en)))) rfl rfl rfl) ?_
  refine zab rfl rfl rfl (op_bldD (ps := [(0, .const (.string ⟨#[83, 105, 122, 101]⟩)), (1, .func 139), (2, .func 140), (3, .func 141)]) rfl fl172 zr172 (ec (ev1 rfl) (ec (ev1 rfl) (ec (ev1 rfl) (ec (ev1 rfl) en)))) rfl rfl rfl) ?_
  refine zab rfl rfl rfl (op_bldD (ps := [(0, .const (.string ⟨#[67, 111, 108, 111, 114]⟩)), (1, .func 142), (2, .func 143), (3, .func 144)]) rfl fl172 zr172 (ec (ev1 rfl) (ec (ev1 rfl) (ec (ev1 rfl) (ec (ev1 rfl) en)))) rfl rfl rfl) ?_
  refine zab rfl rfl rfl (op_bldD (ps := [(0, .const (.string ⟨#[83, 116, 97, 109, 112]⟩)), (1, .func 145), (2, .func 147), (3, .func 149)]) rfl fl172 zr172 (ec (ev1 rfl) (ec (ev1 rfl) (ec (ev1 rfl) (ec (ev1 rfl) en)))) rfl rfl rfl) ?_
  refine zab rfl rfl rfl (op_bldD (ps := [(0, .const (.string ⟨#[84, 97, 114, 103, 101, 116]⟩)), (1, .func 151), (2, .func 152), (3, .func 153)]) rfl fl172 zr172 (ec (ev1 rfl) (ec (ev1 rfl) (ec (ev1 rfl) (ec (ev1 rfl) en)))) rfl rfl rfl) ?_
  refine zab rfl rfl rfl (op_bldaD (ps := [(0, .tmp 1), (1, .tmp 2), (2, .tmp 3), (3, .tmp 4), (4, .tmp 5), (5, .tmp 6), (6, .tmp 7), (7, .tmp 8)]) rfl ar173 zr173 (ec (ev1 rfl) (ec (ev1 rfl) (ec (ev1 rfl) (ec (ev1 rfl) (ec (ev1 rfl) (ec (ev1 rfl) (ec (ev1 rfl) (ec (ev1 rfl) en)))))))) rfl rfl rfl rfl) ?_
  refine zax rfl rfl (op_stam rfl tb173 (ev1 rfl) (ev1 rfl) rfl rfl rfl rfl) (by simp only [upd, za, zaa]; exact rfl) ?_
  refine zae ?_
  refine zau ?_
  refine kend0 (rs1 rfl (rv_mw tb173 rfl rfl rfl)) rfl ?_
  rfl
set_option maxRecDepth 4000 in
set_option maxHeartbeats 1000000 in
theorem kindOf_1 : DFun Tryz.prog 108 [.val (.int .i64 1)] [] (.tup [.agg [iD 63, iD 15, .fn (.func 157) [] [], .fn (.func 158) [] []], .val (.bool true)]) [] := by
  refine zba (N := 14) 0 (by kernel_rfl) Tryz.func108 rfl rfl rfl (by simp only [fr0, Nat.zero_add, Nat.reduceAdd]; exact rfl) rfl fun s0 hs0 => ?_
  refine zaf ?_
  refine zaj 1 (by simp only [holes, List.cons_append, List.nil_append]; exact rfl) ?_
  refine zac ?_
  refine zam rfl rfl rfl (zaq 0 rfl zr164 rfl) (by simp only [upd, za, zaa]; exact rfl) ?_
  refine zab rfl rfl rfl (zad (.inr rfl) (ev1 rfl)) ?_
  refine zae ?_
  refine zaf ?_
  refine zaf ?_
  refine zac ?_
  refine zab rfl rfl rfl (zad (.inl rfl) (ev1 rfl)) ?_
  refine zab rfl rfl rfl ((op_lss rfl (ev1 rfl) (ev1 rfl)).cast (d' := .val (.bool false)) (by kernel_rfl)) ?_
  refine zab rfl rfl rfl (zad (.inl rfl) (ev1 rfl)) ?_
  refine zai (zan (b := false) rfl rfl rfl) rfl rfl rfl (zad (.inl rfl) (ev1 rfl)) (by simp only [upd, za, zaa]; exact rfl) ?_
  refine zai (zan (b := false) rfl rfl rfl) rfl rfl rfl ((op_gtr rfl (ev2 rfl) (ev1 rfl)).cast (d' := .val (.bool false)) (by kernel_rfl)) (by simp only [upd, za, zaa]; exact rfl) ?_
  refine zab rfl rfl rfl ((op_or rfl (ev1 rfl) (ev3 rfl (fun _ => rfl))).cast (d' := .val (.bool false)) (by rfl)) ?_
  refine zae ?_
  refine dwp_if_f rfl (rfl) ?_
  refine zak ?_
  refine zaf ?_
  refine zac ?_
  refine zab rfl rfl rfl (zah [] [] [] rfl (ev1 rfl) en rfl rfl (kinds_d) rfl rfl rfl rfl rfl rfl) ?_
  refine zab rfl rfl rfl (zad (.inl rfl) (ev1 rfl)) ?_
  refine zab rfl rfl rfl (op_ixwr (1) rfl av188 (ev1 rfl) (ev1 rfl) (fun _ => rfl) (fun _ => by decide) (Nat.le_of_ble_eq_true rfl)) ?_
  refine zax rfl rfl (op_stam rfl tb164 (ev1 rfl) (ev1 rfl) rfl rfl rfl rfl) (by simp only [upd, za, zaa]; exact rfl) ?_
  refine zab rfl rfl rfl (zad (.inr rfl) (ev1 rfl)) ?_
  refine zae ?_
  refine zau ?_
  refine kend0 (rs2 rfl (rv_mw tb164 rfl rfl rfl) (rv_t rfl)) rfl ?_
  rfl
set_option maxRecDepth 4000 in
set_option maxHeartbeats 1000000 in
theorem kindOf_2 : DFun Tryz.prog 108 [.val (.int .i64 2)] [] (.tup [.agg [iD 63, iD 15, .fn (.func 157) [] [], .fn (.func 158) [] []], .val (.bool true)]) [] := by
  refine zba (N := 14) 0 (by kernel_rfl) Tryz.func108 rfl rfl rfl (by simp only [fr0, Nat.zero_add, Nat.reduceAdd]; exact rfl) rfl fun s0 hs0 => ?_
  refine zaf ?_
  refine zaj 1 (by simp only [holes, List.cons_append, List.nil_append]; exact rfl) ?_
  refine zac ?_
  refine zam rfl rfl rfl (zaq 0 rfl zr164 rfl) (by simp only [upd, za, zaa]; exact rfl) ?_
  refine zab rfl rfl rfl (zad (.inr rfl) (ev1 rfl)) ?_
  refine zae ?_
  refine zaf ?_
  refine zaf ?_
  refine zac ?_
  refine zab rfl rfl rfl (zad (.inl rfl) (ev1 rfl)) ?_
  refine zab rfl rfl rfl ((op_lss rfl (ev1 rfl) (ev1 rfl)).cast (d' := .val (.bool false)) (by kernel_rfl)) ?_
  refine zab rfl rfl rfl (zad (.inl rfl) (ev1 rfl)) ?_
  refine zai (zan (b := false) rfl rfl rfl) rfl rfl rfl (zad (.inl rfl) (ev1 rfl)) (by simp only [upd, za, zaa]; exact rfl) ?_
  refine zai (zan (b := false) rfl rfl rfl) rfl rfl rfl ((op_gtr rfl (ev2 rfl) (ev1 rfl)).cast (d' := .val (.bool false)) (by kernel_rfl)) (by simp only [upd, za, zaa]; exact rfl) ?_
  refine zab rfl rfl rfl ((op_or rfl (ev1 rfl) (ev3 rfl (fun _ => rfl))).cast (d' := .val (.bool false)) (by rfl)) ?_
  refine zae ?_
  refine dwp_if_f rfl (rfl) ?_
  refine zak ?_
  refine zaf ?_
  refine zac ?_
  refine zab rfl rfl rfl (zah [] [] [] rfl (ev1 rfl) en rfl rfl (kinds_d) rfl rfl rfl rfl rfl rfl) ?_
  refine zab rfl rfl rfl (zad (.inl rfl) (ev1 rfl)) ?_
  refine zab rfl rfl rfl (op_ixwr (2) rfl av188 (ev1 rfl) (ev1 rfl) (fun _ => rfl) (fun _ => by decide) (Nat.le_of_ble_eq_true rfl)) ?_
  refine zax rfl rfl (op_stam rfl tb164 (ev1 rfl) (ev1 rfl) rfl rfl rfl rfl) (by simp only [upd, za, zaa]; exact rfl) ?_
  refine zab rfl rfl rfl (zad (.inr rfl) (ev1 rfl)) ?_
  refine zae ?_
  refine zau ?_
  refine kend0 (rs2 rfl (rv_mw tb164 rfl rfl rfl) (rv_t rfl)) rfl ?_
  rfl
set_option maxRecDepth 4000 in
set_option maxHeartbeats 1000000 in
theorem kindOf_3 : DFun Tryz.prog 108 [.val (.int .i64 3)] [] (.tup [.agg [iD 47, iD 0, .fn (.func 159) [] [], .fn (.func 160) [] []], .val (.bool true)]) [] := by
  refine zba (N := 14) 0 (by kernel_rfl) Tryz.func108 rfl rfl rfl (by simp only [fr0, Nat.zero_add, Nat.reduceAdd]; exact rfl) rfl fun s0 hs0 => ?_
  refine zaf ?_
  refine zaj 1 (by simp only [holes, List.cons_append, List.nil_append]; exact rfl) ?_
  refine zac ?_
  refine zam rfl rfl rfl (zaq 0 rfl zr164 rfl) (by simp only [upd, za, zaa]; exact rfl) ?_
  refine zab rfl rfl rfl (zad (.inr rfl) (ev1 rfl)) ?_
  refine zae ?_
  refine zaf ?_
  refine zaf ?_
  refine zac ?_
  refine zab rfl rfl rfl (zad (.inl rfl) (ev1 rfl)) ?_
  refine zab rfl rfl rfl ((op_lss rfl (ev1 rfl) (ev1 rfl)).cast (d' := .val (.bool false)) (by kernel_rfl)) ?_
  refine zab rfl rfl rfl (zad (.inl rfl) (ev1 rfl)) ?_
  refine zai (zan (b := false) rfl rfl rfl) rfl rfl rfl (zad (.inl rfl) (ev1 rfl)) (by simp only [upd, za, zaa]; exact rfl) ?_
  refine zai (zan (b := false) rfl rfl rfl) rfl rfl rfl ((op_gtr rfl (ev2 rfl) (ev1 rfl)).cast (d' := .val (.bool false)) (by kernel_rfl)) (by simp only [upd, za, zaa]; exact rfl) ?_
  refine zab rfl rfl rfl ((op_or rfl (ev1 rfl) (ev3 rfl (fun _ => rfl))).cast (d' := .val (.bool false)) (by rfl)) ?_
  refine zae ?_
  refine dwp_if_f rfl (rfl) ?_
  refine zak ?_
  refine zaf ?_
  refine zac ?_
  refine zab rfl rfl rfl (zah [] [] [] rfl (ev1 rfl) en rfl rfl (kinds_d) rfl rfl rfl rfl rfl rfl) ?_
  refine zab rfl rfl rfl (zad (.inl rfl) (ev1 rfl)) ?_
  refine zab rfl rfl rfl (op_ixwr (3) rfl av188 (ev1 rfl) (ev1 rfl) (fun _ => rfl) (fun _ => by decide) (Nat.le_of_ble_eq_true rfl)) ?_
  refine zax rfl rfl (op_stam rfl tb164 (ev1 rfl) (ev1 rfl) rfl rfl rfl rfl) (by simp only [upd, za, zaa]; exact rfl) ?_
  refine zab rfl rfl rfl (zad (.inr rfl) (ev1 rfl)) ?_
  refine zae ?_
  refine zau ?_
  refine kend0 (rs2 rfl (rv_mw tb164 rfl rfl rfl) (rv_t rfl)) rfl ?_
  rfl
set_option maxRecDepth 4000 in
set_option maxHeartbeats 1000000 in
theorem kindOf_4 : DFun Tryz.prog 108 [.val (.int .i64 4)] [] (.tup [.agg [iD 47, iD 0, .fn (.func 161) [] [], .fn (.func 160) [] []], .val (.bool true)]) [] := by
  refine zba (N := 14) 0 (by kernel_rfl) Tryz.func108 rfl rfl rfl (by simp only [fr0, Nat.zero_add, Nat.reduceAdd]; exact rfl) rfl fun s0 hs0 => ?_
  refine zaf ?_
  refine zaj 1 (by simp only [holes, List.cons_append, List.nil_append]; exact rfl) ?_
  refine zac ?_
  refine zam rfl rfl rfl (zaq 0 rfl zr164 rfl) (by simp only [upd, za, zaa]; exact rfl) ?_
  refine zab rfl rfl rfl (zad (.inr rfl) (ev1 rfl)) ?_
  refine zae ?_
  refine zaf ?_
  refine zaf ?_
  refine zac ?_
  refine zab rfl rfl rfl (zad (.inl rfl) (ev1 rfl)) ?_
  refine zab rfl rfl rfl ((op_lss rfl (ev1 rfl) (ev1 rfl)).cast (d' := .val (.bool false)) (by kernel_rfl)) ?_
  refine zab rfl rfl rfl (zad (.inl rfl) (ev1 rfl)) ?_
  refine zai (zan (b := false) rfl rfl rfl) rfl rfl rfl (zad (.inl rfl) (ev1 rfl)) (by simp only [upd, za, zaa]; exact rfl) ?_
  refine zai (zan (b := false) rfl rfl rfl) rfl rfl rfl ((op_gtr rfl (ev2 rfl) (ev1 rfl)).cast (d' := .val (.bool false)) (by kernel_rfl)) (by simp only [upd, za, zaa]; exact rfl) ?_
  refine zab rfl rfl rfl ((op_or rfl (ev1 rfl) (ev3 rfl (fun _ => rfl))).cast (d' := .val (.bool false)) (by rfl)) ?_
  refine zae ?_
  refine dwp_if_f rfl (rfl) ?_
  refine zak ?_
  refine zaf ?_
  refine zac ?_
  refine zab rfl rfl rfl (zah [] [] [] rfl (ev1 rfl) en rfl rfl (kinds_d) rfl rfl rfl rfl rfl rfl) ?_
  refine zab rfl rfl rfl (zad (.inl rfl) (ev1 rfl)) ?_
  refine zab rfl rfl rfl (op_ixwr (4) rfl av188 (ev1 rfl) (ev1 rfl) (fun _ => rfl) (fun _ => by decide) (Nat.le_of_ble_eq_true rfl)) ?_
  refine zax rfl rfl (op_stam rfl tb164 (ev1 rfl) (ev1 rfl) rfl rfl rfl rfl) (by simp only [upd, za, zaa]; exact rfl) ?_
  refine zab rfl rfl rfl (zad (.inr rfl) (ev1 rfl)) ?_
  refine zae ?_
  refine zau ?_
  refine kend0 (rs2 rfl (rv_mw tb164 rfl rfl rfl) (rv_t rfl)) rfl ?_
  rfl
set_option maxRecDepth 4000 in
set_option maxHeartbeats 1000000 in
theorem kindOf_5 : DFun Tryz.prog 108 [.val (.int .i64 5)] [] (.tup [.agg [iD 51, iD 1020, .fn (.func 162) [] [], .fn (.func 163) [] []], .val (.bool true)]) [] := by
  refine zba (N := 14) 0 (by kernel_rfl) Tryz.func108 rfl rfl rfl (by simp only [fr0, Nat.zero_add, Nat.reduceAdd]; exact rfl) rfl fun s0 hs0 => ?_
  refine zaf ?_
  refine zaj 1 (by simp only [holes, List.cons_append, List.nil_append]; exact rfl) ?_
  refine zac ?_
  refine zam rfl rfl rfl (zaq 0 rfl zr164 rfl) (by simp only [upd, za, zaa]; exact rfl) ?_
  refine zab rfl rfl rfl (zad (.inr rfl) (ev1 rfl)) ?_
  refine zae ?_
  refine zaf ?_
  refine zaf ?_
  refine zac ?_
  refine zab rfl rfl rfl (zad (.inl rfl) (ev1 rfl)) ?_
  refine zab rfl rfl rfl ((op_lss rfl (ev1 rfl) (ev1 rfl)).cast (d' := .val (.bool false)) (by kernel_rfl)) ?_
  refine zab rfl rfl rfl (zad (.inl rfl) (ev1 rfl)) ?_
  refine zai (zan (b := false) rfl rfl rfl) rfl rfl rfl (zad (.inl rfl) (ev1 rfl)) (by simp only [upd, za, zaa]; exact rfl) ?_
  refine zai (zan (b := false) rfl rfl rfl) rfl rfl rfl ((op_gtr rfl (ev2 rfl) (ev1 rfl)).cast (d' := .val (.bool false)) (by kernel_rfl)) (by simp only [upd, za, zaa]; exact rfl) ?_
  refine zab rfl rfl rfl ((op_or rfl (ev1 rfl) (ev3 rfl (fun _ => rfl))).cast (d' := .val (.bool false)) (by rfl)) ?_
  refine zae ?_
  refine dwp_if_f rfl (rfl) ?_
  refine zak ?_
  refine zaf ?_
  refine zac ?_
  refine zab rfl rfl rfl (zah [] [] [] rfl (ev1 rfl) en rfl rfl (kinds_d) rfl rfl rfl rfl rfl rfl) ?_
  refine zab rfl rfl rfl (zad (.inl rfl) (ev1 rfl)) ?_
  refine zab rfl rfl rfl (op_ixwr (5) rfl av188 (ev1 rfl) (ev1 rfl) (fun _ => rfl) (fun _ => by decide) (Nat.le_of_ble_eq_true rfl)) ?_
  refine zax rfl rfl (op_stam rfl tb164 (ev1 rfl) (ev1 rfl) rfl rfl rfl rfl) (by simp only [upd, za, zaa]; exact rfl) ?_
  refine zab rfl rfl rfl (zad (.inr rfl) (ev1 rfl)) ?_
  refine zae ?_
  refine zau ?_
  refine kend0 (rs2 rfl (rv_mw tb164 rfl rfl rfl) (rv_t rfl)) rfl ?_
  rfl
set_option maxRecDepth 4000 in
set_option maxHeartbeats 1000000 in
theorem kindOf_6 : DFun Tryz.prog 108 [.val (.int .i64 6)] [] (.tup [.agg [iD 67, iD 0, .fn (.func 164) [] [], .fn (.func 165) [] []], .val (.bool true)]) [] := by
  refine zba (N := 14) 0 (by kernel_rfl) Tryz.func108 rfl rfl rfl (by simp only [fr0, Nat.zero_add, Nat.reduceAdd]; exact rfl) rfl fun s0 hs0 => ?_
  refine zaf ?_
  refine zaj 1 (by simp only [holes, List.cons_append, List.nil_append]; exact rfl) ?_
  refine zac ?_
  refine zam rfl rfl rfl (zaq 0 rfl zr164 rfl) (by simp only [upd, za, zaa]; exact rfl) ?_
  refine zab rfl rfl rfl (zad (.inr rfl) (ev1 rfl)) ?_
  refine zae ?_
  refine zaf ?_
  refine zaf ?_
  refine zac ?_
  refine zab rfl rfl rfl (zad (.inl rfl) (ev1 rfl)) ?_
  refine zab rfl rfl rfl ((op_lss rfl (ev1 rfl) (ev1 rfl)).cast (d' := .val (.bool false)) (by kernel_rfl)) ?_
  refine zab rfl rfl rfl (zad (.inl rfl) (ev1 rfl)) ?_
  refine zai (zan (b := false) rfl rfl rfl) rfl rfl rfl (zad (.inl rfl) (ev1 rfl)) (by simp only [upd, za, zaa]; exact rfl) ?_
  refine zai (zan (b := false) rfl rfl rfl) rfl rfl rfl ((op_gtr rfl (ev2 rfl) (ev1 rfl)).cast (d' := .val (.bool false)) (by kernel_rfl)) (by simp only [upd, za, zaa]; exact rfl) ?_
  refine zab rfl rfl rfl ((op_or rfl (ev1 rfl) (ev3 rfl (fun _ => rfl))).cast (d' := .val (.bool false)) (by rfl)) ?_
  refine zae ?_
  refine dwp_if_f rfl (rfl) ?_
  refine zak ?_
  refine zaf ?_
  refine zac ?_
  refine zab rfl rfl rfl (zah [] [] [] rfl (ev1 rfl) en rfl rfl (kinds_d) rfl rfl rfl rfl rfl rfl) ?_
  refine zab rfl rfl rfl (zad (.inl rfl) (ev1 rfl)) ?_
  refine zab rfl rfl rfl (op_ixwr (6) rfl av188 (ev1 rfl) (ev1 rfl) (fun _ => rfl) (fun _ => by decide) (Nat.le_of_ble_eq_true rfl)) ?_
  refine zax rfl rfl (op_stam rfl tb164 (ev1 rfl) (ev1 rfl) rfl rfl rfl rfl) (by simp only [upd, za, zaa]; exact rfl) ?_
  refine zab rfl rfl rfl (zad (.inr rfl) (ev1 rfl)) ?_
  refine zae ?_
  refine zau ?_
  refine kend0 (rs2 rfl (rv_mw tb164 rfl rfl rfl) (rv_t rfl)) rfl ?_
  rfl
set_option maxRecDepth 4000 in
set_option maxHeartbeats 1000000 in
theorem kindOf_7 : DFun Tryz.prog 108 [.val (.int .i64 7)] [] (.tup [.agg [iD 128, iD 0, .val .nilFunc, .val .nilFunc], .val (.bool true)]) [] := by
  refine zba (N := 14) 0 (by kernel_rfl) Tryz.func108 rfl rfl rfl (by simp only [fr0, Nat.zero_add, Nat.reduceAdd]; exact rfl) rfl fun s0 hs0 => ?_
  refine zaf ?_
  refine zaj 1 (by simp only [holes, List.cons_append, List.nil_append]; exact rfl) ?_
  refine zac ?_
  refine zam rfl rfl rfl (zaq 0 rfl zr164 rfl) (by simp only [upd, za, zaa]; exact rfl) ?_
  refine zab rfl rfl rfl (zad (.inr rfl) (ev1 rfl)) ?_
  refine zae ?_
  refine zaf ?_
  refine zaf ?_
  refine zac ?_
  refine zab rfl rfl rfl (zad (.inl rfl) (ev1 rfl)) ?_
  refine zab rfl rfl rfl ((op_lss rfl (ev1 rfl) (ev1 rfl)).cast (d' := .val (.bool false)) (by kernel_rfl)) ?_
  refine zab rfl rfl rfl (zad (.inl rfl) (ev1 rfl)) ?_
  refine zai (zan (b := false) rfl rfl rfl) rfl rfl rfl (zad (.inl rfl) (ev1 rfl)) (by simp only [upd, za, zaa]; exact rfl) ?_
  refine zai (zan (b := false) rfl rfl rfl) rfl rfl rfl ((op_gtr rfl (ev2 rfl) (ev1 rfl)).cast (d' := .val (.bool false)) (by kernel_rfl)) (by simp only [upd, za, zaa]; exact rfl) ?_
  refine zab rfl rfl rfl ((op_or rfl (ev1 rfl) (ev3 rfl (fun _ => rfl))).cast (d' := .val (.bool false)) (by rfl)) ?_
  refine zae ?_
  refine dwp_if_f rfl (rfl) ?_
  refine zak ?_
  refine zaf ?_
  refine zac ?_
  refine zab rfl rfl rfl (zah [] [] [] rfl (ev1 rfl) en rfl rfl (kinds_d) rfl rfl rfl rfl rfl rfl) ?_
  refine zab rfl rfl rfl (zad (.inl rfl) (ev1 rfl)) ?_
  refine zab rfl rfl rfl (op_ixwr (7) rfl av188 (ev1 rfl) (ev1 rfl) (fun _ => rfl) (fun _ => by decide) (Nat.le_of_ble_eq_true rfl)) ?_
  refine zax rfl rfl (op_stam rfl tb164 (ev1 rfl) (ev1 rfl) rfl rfl rfl rfl) (by simp only [upd, za, zaa]; exact rfl) ?_
  refine zab rfl rfl rfl (zad (.inr rfl) (ev1 rfl)) ?_
  refine zae ?_
  refine zau ?_
  refine kend0 (rs2 rfl (rv_mw tb164 rfl rfl rfl) (rv_t rfl)) rfl ?_
  rfl
set_option maxRecDepth 4000 in
set_option maxHeartbeats 1000000 in
theorem kindOf_8 : DFun Tryz.prog 108 [.val (.int .i64 8)] [] (.tup [.agg [iD 128, iD 0, .val .nilFunc, .val .nilFunc], .val (.bool true)]) [] := by
  refine zba (N := 14) 0 (by kernel_rfl) Tryz.func108 rfl rfl rfl (by simp only [fr0, Nat.zero_add, Nat.reduceAdd]; exact rfl) rfl fun s0 hs0 => ?_
  refine zaf ?_
  refine zaj 1 (by simp only [holes, List.cons_append, List.nil_append]; exact rfl) ?_
  refine zac ?_
  refine zam rfl rfl rfl (zaq 0 rfl zr164 rfl) (by simp only [upd, za, zaa]; exact rfl) ?_
  refine zab rfl rfl rfl (zad (.inr rfl) (ev1 rfl)) ?_
  refine zae ?_
  refine zaf ?_
  refine zaf ?_
  refine zac ?_
  refine zab rfl rfl rfl (zad (.inl rfl) (ev1 rfl)) ?_
  refine zab rfl rfl rfl ((op_lss rfl (ev1 rfl) (ev1 rfl)).cast (d' := .val (.bool false)) (by kernel_rfl)) ?_
  refine zab rfl rfl rfl (zad (.inl rfl) (ev1 rfl)) ?_
  refine zai (zan (b := false) rfl rfl rfl) rfl rfl rfl (zad (.inl rfl) (ev1 rfl)) (by simp only [upd, za, zaa]; exact rfl) ?_
  refine zai (zan (b := false) rfl rfl rfl) rfl rfl rfl ((op_gtr rfl (ev2 rfl) (ev1 rfl)).cast (d' := .val (.bool false)) (by kernel_rfl)) (by simp only [upd, za, zaa]; exact rfl) ?_
  refine zab rfl rfl rfl ((op_or rfl (ev1 rfl) (ev3 rfl (fun _ => rfl))).cast (d' := .val (.bool false)) (by rfl)) ?_
  refine zae ?_
  refine dwp_if_f rfl (rfl) ?_
  refine zak ?_
  refine zaf ?_
  refine zac ?_
  refine zab rfl rfl rfl (zah [] [] [] rfl (ev1 rfl) en rfl rfl (kinds_d) rfl rfl rfl rfl rfl rfl) ?_
  refine zab rfl rfl rfl (zad (.inl rfl) (ev1 rfl)) ?_
  refine zab rfl rfl rfl (op_ixwr (8) rfl av188 (ev1 rfl) (ev1 rfl) (fun _ => rfl) (fun _ => by decide) (Nat.le_of_ble_eq_true rfl)) ?_
  refine zax rfl rfl (op_stam rfl tb164 (ev1 rfl) (ev1 rfl) rfl rfl rfl rfl) (by simp only [upd, za, zaa]; exact rfl) ?_
  refine zab rfl rfl rfl (zad (.inr rfl) (ev1 rfl)) ?_
  refine zae ?_
  refine zau ?_
  refine kend0 (rs2 rfl (rv_mw tb164 rfl rfl rfl) (rv_t rfl)) rfl ?_
  rfl
set_option maxRecDepth 4000 in
set_option maxHeartbeats 1000000 in
theorem kindOf_no (n : Int) (h : ¬ (1 ≤ n ∧ n ≤ 8)) : DFun Tryz.prog 108 [.val (.int .i64 n)] [] (.tup [.val (.agg #[.int .i64 0, .int .i64 0, .nilFunc, .nilFunc]), .val (.bool false)]) [] := by
  refine zba (N := 14) 0 (by kernel_rfl) Tryz.func108 rfl rfl rfl (by simp only [fr0, Nat.zero_add, Nat.reduceAdd]; exact rfl) rfl fun s0 hs0 => ?_
  refine zaf ?_
  refine zaj 1 (by simp only [holes, List.cons_append, List.nil_append]; exact rfl) ?_
  refine zac ?_
  refine zam rfl rfl rfl (zaq 0 rfl zr164 rfl) (by simp only [upd, za, zaa]; exact rfl) ?_
  refine zab rfl rfl rfl (zad (.inr rfl) (ev1 rfl)) ?_
  refine zae ?_
  refine zaf ?_
  refine zaf ?_
  refine zac ?_
  refine zab rfl rfl rfl (zad (.inl rfl) (ev1 rfl)) ?_
  refine zab rfl rfl rfl (op_lss rfl (ev1 rfl) (ev1 rfl)) ?_
  refine zab rfl rfl rfl (zad (.inl rfl) (ev1 rfl)) ?_
  refine zag (zan rfl rfl rfl) rfl rfl rfl (zad (.inl rfl) (ev1 rfl)) ?_
  refine zag (zan rfl rfl rfl) rfl rfl rfl (op_gtr rfl (ev2 rfl) (ev1 rfl)) ?_
  refine zab rfl rfl rfl (op_or rfl (ev1 rfl) (ev3 rfl id)) ?_
  refine zae ?_
  refine dwp_if_t rfl (by simp; omega) ?_
  refine zaf ?_
  refine zac ?_
  refine zab rfl rfl rfl (op_build0 rfl fl164 zr164) ?_
  refine zax rfl rfl (op_stwa rfl tb164 (ev1 rfl) (ev1 rfl) rfl rfl rfl rfl) (by simp only [upd, za, zaa]; exact rfl) ?_
  refine zab rfl rfl rfl (zad (.inr rfl) (ev1 rfl)) ?_
  refine zae ?_
  refine zau ?_
  refine kend0 (rs2 rfl (rv_w tb164 rfl rfl rfl) (rv_t rfl)) rfl ?_
  rfl
set_option maxRecDepth 4000 in
set_option maxHeartbeats 1000000 in
theorem fit0_d (u m : Int) (a b : D) (o : OpM) : DFun Tryz.prog 126 [.agg [iD u, iD m, a, b], .dpm (opD o)] [] (.val (.bool (drB o.x))) [] := by
  refine zba (N := 10) 0 (by kernel_rfl) Tryz.func126 rfl rfl rfl (by simp only [fr0, Nat.zero_add, Nat.reduceAdd]; exact rfl) rfl fun s0 hs0 => ?_
  refine zaf ?_
  refine zaj 1 (by simp only [holes, List.cons_append, List.nil_append]; exact rfl) ?_
  refine zac ?_
  refine zam rfl rfl rfl (op_boxam 0 rfl (ev1 rfl) rfl) (by simp only [upd, za, zaa]; exact rfl) ?_
  refine zab rfl rfl rfl (zad (.inr rfl) (ev1 rfl)) ?_
  refine zae ?_
  refine zaf ?_
  refine zac ?_
  refine zab rfl rfl rfl (zad (.inl rfl) (ev1 rfl)) ?_
  refine zab rfl rfl rfl (op_nc rfl (ev1 rfl) (fun s v h => by cases h; exact ⟨_, rfl⟩)) ?_
  refine zab rfl rfl rfl (op_fadm rfl fo68_2 (ev1 rfl)) ?_
  refine zab rfl rfl rfl (op_lddm rfl tb3 (ev1 rfl) rfl) ?_
  refine zab rfl rfl rfl (zah [] [] [] rfl (ev1 rfl) (ec (ev1 rfl) en) rfl rfl (drawn_d _) rfl rfl rfl rfl rfl rfl) ?_
  refine zab rfl rfl rfl (zad (.inr rfl) (ev1 rfl)) ?_
  refine zae ?_
  refine zau ?_
  refine kend0 (rs1 rfl (rv_t rfl)) rfl ?_
  rfl
set_option maxRecDepth 4000 in
set_option maxHeartbeats 1000000 in
theorem blk0_d (o : OpM) : DFun Tryz.prog 128 [.dpm (opD o)] [] (.val (.bool ((o.x == 0)))) [] := by
  refine zba (N := 8) 0 (by kernel_rfl) Tryz.func128 rfl rfl rfl (by simp only [fr0, Nat.zero_add, Nat.reduceAdd]; exact rfl) rfl fun s0 hs0 => ?_
  refine zaf ?_
  refine zac ?_
  refine zab rfl rfl rfl (zad (.inr rfl) (ev1 rfl)) ?_
  refine zae ?_
  refine zaf ?_
  refine zac ?_
  refine zab rfl rfl rfl (zad (.inl rfl) (ev1 rfl)) ?_
  refine zab rfl rfl rfl (op_nc rfl (ev1 rfl) (fun s v h => by cases h; exact ⟨_, rfl⟩)) ?_
  refine zab rfl rfl rfl (op_fadm rfl fo68_2 (ev1 rfl)) ?_
  refine zab rfl rfl rfl (op_lddm rfl tb3 (ev1 rfl) rfl) ?_
  refine zab rfl rfl rfl (zb rfl (ev1 rfl) (ev1 rfl)) ?_
  refine zab rfl rfl rfl (zad (.inr rfl) (ev1 rfl)) ?_
  refine zae ?_
  refine zau ?_
  refine kend0 (rs1 rfl (rv_t rfl)) rfl ?_
  rfl
set_option maxRecDepth 4000 in
set_option maxHeartbeats 1000000 in
theorem fit1_d (u m : Int) (a b : D) (o : OpM) : DFun Tryz.prog 130 [.agg [iD u, iD m, a, b], .dpm (opD o)] [] (.val (.bool (drB o.y))) [] := by
  refine zba (N := 10) 0 (by kernel_rfl) Tryz.func130 rfl rfl rfl (by simp only [fr0, Nat.zero_add, Nat.reduceAdd]; exact rfl) rfl fun s0 hs0 => ?_
  refine zaf ?_
  refine zaj 1 (by simp only [holes, List.cons_append, List.nil_append]; exact rfl) ?_
  refine zac ?_
  refine zam rfl rfl rfl (op_boxam 0 rfl (ev1 rfl) rfl) (by simp only [upd, za, zaa]; exact rfl) ?_
  refine zab rfl rfl rfl (zad (.inr rfl) (ev1 rfl)) ?_
  refine zae ?_
  refine zaf ?_
  refine zac ?_
  refine zab rfl rfl rfl (zad (.inl rfl) (ev1 rfl)) ?_
  refine zab rfl rfl rfl (op_nc rfl (ev1 rfl) (fun s v h => by cases h; exact ⟨_, rfl⟩)) ?_
  refine zab rfl rfl rfl (op_fadm rfl fo68_3 (ev1 rfl)) ?_
  refine zab rfl rfl rfl (op_lddm rfl tb3 (ev1 rfl) rfl) ?_
  refine zab rfl rfl rfl (zah [] [] [] rfl (ev1 rfl) (ec (ev1 rfl) en) rfl rfl (drawn_d _) rfl rfl rfl rfl rfl rfl) ?_
  refine zab rfl rfl rfl (zad (.inr rfl) (ev1 rfl)) ?_
  refine zae ?_
  refine zau ?_
  refine kend0 (rs1 rfl (rv_t rfl)) rfl ?_
  rfl
set_option maxRecDepth 4000 in
set_option maxHeartbeats 1000000 in
theorem blk1_d (o : OpM) : DFun Tryz.prog 131 [.dpm (opD o)] [] (.val (.bool ((o.y == 0)))) [] := by
  refine zba (N := 8) 0 (by kernel_rfl) Tryz.func131 rfl rfl rfl (by simp only [fr0, Nat.zero_add, Nat.reduceAdd]; exact rfl) rfl fun s0 hs0 => ?_
  refine zaf ?_
  refine zac ?_
  refine zab rfl rfl rfl (zad (.inr rfl) (ev1 rfl)) ?_
  refine zae ?_
  refine zaf ?_
  refine zac ?_
  refine zab rfl rfl rfl (zad (.inl rfl) (ev1 rfl)) ?_
  refine zab rfl rfl rfl (op_nc rfl (ev1 rfl) (fun s v h => by cases h; exact ⟨_, rfl⟩)) ?_
  refine zab rfl rfl rfl (op_fadm rfl fo68_3 (ev1 rfl)) ?_
  refine zab rfl rfl rfl (op_lddm rfl tb3 (ev1 rfl) rfl) ?_
  refine zab rfl rfl rfl (zb rfl (ev1 rfl) (ev1 rfl)) ?_
  refine zab rfl rfl rfl (zad (.inr rfl) (ev1 rfl)) ?_
  refine zae ?_
  refine zau ?_
  refine kend0 (rs1 rfl (rv_t rfl)) rfl ?_
  rfl
set_option maxRecDepth 4000 in
set_option maxHeartbeats 1000000 in
theorem fit2_d (u m : Int) (a b : D) (o : OpM) : DFun Tryz.prog 133 [.agg [iD u, iD m, a, b], .dpm (opD o)] [] (.val (.bool (drB o.x2))) [] := by
  refine zba (N := 10) 0 (by kernel_rfl) Tryz.func133 rfl rfl rfl (by simp only [fr0, Nat.zero_add, Nat.reduceAdd]; exact rfl) rfl fun s0 hs0 => ?_
  refine zaf ?_
  refine zaj 1 (by simp only [holes, List.cons_append, List.nil_append]; exact rfl) ?_
  refine zac ?_
  refine zam rfl rfl rfl (op_boxam 0 rfl (ev1 rfl) rfl) (by simp only [upd, za, zaa]; exact rfl) ?_
  refine zab rfl rfl rfl (zad (.inr rfl) (ev1 rfl)) ?_
  refine zae ?_
  refine zaf ?_
  refine zac ?_
  refine zab rfl rfl rfl (zad (.inl rfl) (ev1 rfl)) ?_
  refine zab rfl rfl rfl (op_nc rfl (ev1 rfl) (fun s v h => by cases h; exact ⟨_, rfl⟩)) ?_
  refine zab rfl rfl rfl (op_fadm rfl fo68_4 (ev1 rfl)) ?_
  refine zab rfl rfl rfl (op_lddm rfl tb3 (ev1 rfl) rfl) ?_
  refine zab rfl rfl rfl (zah [] [] [] rfl (ev1 rfl) (ec (ev1 rfl) en) rfl rfl (drawn_d _) rfl rfl rfl rfl rfl rfl) ?_
  refine zab rfl rfl rfl (zad (.inr rfl) (ev1 rfl)) ?_
  refine zae ?_
  refine zau ?_
  refine kend0 (rs1 rfl (rv_t rfl)) rfl ?_
  rfl
set_option maxRecDepth 4000 in
set_option maxHeartbeats 1000000 in
theorem blk2_d (o : OpM) : DFun Tryz.prog 134 [.dpm (opD o)] [] (.val (.bool ((o.x2 == 0)))) [] := by
  refine zba (N := 8) 0 (by kernel_rfl) Tryz.func134 rfl rfl rfl (by simp only [fr0, Nat.zero_add, Nat.reduceAdd]; exact rfl) rfl fun s0 hs0 => ?_
  refine zaf ?_
  refine zac ?_
  refine zab rfl rfl rfl (zad (.inr rfl) (ev1 rfl)) ?_
  refine zae ?_
  refine zaf ?_
  refine zac ?_
  refine zab rfl rfl rfl (zad (.inl rfl) (ev1 rfl)) ?_
  refine zab rfl rfl rfl (op_nc rfl (ev1 rfl) (fun s v h => by cases h; exact ⟨_, rfl⟩)) ?_
  refine zab rfl rfl rfl (op_fadm rfl fo68_4 (ev1 rfl)) ?_
  refine zab rfl rfl rfl (op_lddm rfl tb3 (ev1 rfl) rfl) ?_
  refine zab rfl rfl rfl (zb rfl (ev1 rfl) (ev1 rfl)) ?_
  refine zab rfl rfl rfl (zad (.inr rfl) (ev1 rfl)) ?_
  refine zae ?_
  refine zau ?_
  refine kend0 (rs1 rfl (rv_t rfl)) rfl ?_
  rfl
set_option maxRecDepth 4000 in
set_option maxHeartbeats 1000000 in
theorem fit3_d (u m : Int) (a b : D) (o : OpM) : DFun Tryz.prog 136 [.agg [iD u, iD m, a, b], .dpm (opD o)] [] (.val (.bool (drB o.y2))) [] := by
  refine zba (N := 10) 0 (by kernel_rfl) Tryz.func136 rfl rfl rfl (by simp only [fr0, Nat.zero_add, Nat.reduceAdd]; exact rfl) rfl fun s0 hs0 => ?_
  refine zaf ?_
  refine zaj 1 (by simp only [holes, List.cons_append, List.nil_append]; exact rfl) ?_
  refine zac ?_
  refine zam rfl rfl rfl (op_boxam 0 rfl (ev1 rfl) rfl) (by simp only [upd, za, zaa]; exact rfl) ?_
  refine zab rfl rfl rfl (zad (.inr rfl) (ev1 rfl)) ?_
  refine zae ?_
  refine zaf ?_
  refine zac ?_
  refine zab rfl rfl rfl (zad (.inl rfl) (ev1 rfl)) ?_
  refine zab rfl rfl rfl (op_nc rfl (ev1 rfl) (fun s v h => by cases h; exact ⟨_, rfl⟩)) ?_
  refine zab rfl rfl rfl (op_fadm rfl fo68_5 (ev1 rfl)) ?_
  refine zab rfl rfl rfl (op_lddm rfl tb3 (ev1 rfl) rfl) ?_
  refine zab rfl rfl rfl (zah [] [] [] rfl (ev1 rfl) (ec (ev1 rfl) en) rfl rfl (drawn_d _) rfl rfl rfl rfl rfl rfl) ?_
  refine zab rfl rfl rfl (zad (.inr rfl) (ev1 rfl)) ?_
  refine zae ?_
  refine zau ?_
  refine kend0 (rs1 rfl (rv_t rfl)) rfl ?_
  rfl
set_option maxRecDepth 4000 in
set_option maxHeartbeats 1000000 in
theorem blk3_d (o : OpM) : DFun Tryz.prog 137 [.dpm (opD o)] [] (.val (.bool ((o.y2 == 0)))) [] := by
  refine zba (N := 8) 0 (by kernel_rfl) Tryz.func137 rfl rfl rfl (by simp only [fr0, Nat.zero_add, Nat.reduceAdd]; exact rfl) rfl fun s0 hs0 => ?_
  refine zaf ?_
  refine zac ?_
  refine zab rfl rfl rfl (zad (.inr rfl) (ev1 rfl)) ?_
  refine zae ?_
  refine zaf ?_
  refine zac ?_
  refine zab rfl rfl rfl (zad (.inl rfl) (ev1 rfl)) ?_
  refine zab rfl rfl rfl (op_nc rfl (ev1 rfl) (fun s v h => by cases h; exact ⟨_, rfl⟩)) ?_
  refine zab rfl rfl rfl (op_fadm rfl fo68_5 (ev1 rfl)) ?_
  refine zab rfl rfl rfl (op_lddm rfl tb3 (ev1 rfl) rfl) ?_
  refine zab rfl rfl rfl (zb rfl (ev1 rfl) (ev1 rfl)) ?_
  refine zab rfl rfl rfl (zad (.inr rfl) (ev1 rfl)) ?_
  refine zae ?_
  refine zau ?_
  refine kend0 (rs1 rfl (rv_t rfl)) rfl ?_
  rfl
set_option maxRecDepth 4000 in
set_option maxHeartbeats 1000000 in
theorem fit4_d (u m : Int) (a b : D) (o : OpM) : DFun Tryz.prog 139 [.agg [iD u, iD m, a, b], .dpm (opD o)] [] (.val (.bool ((decide (0 ≤ o.sz) && decide (o.sz ≤ m))))) [] := by
  refine zba (N := 19) 0 (by kernel_rfl) Tryz.func139 rfl rfl rfl (by simp only [fr0, Nat.zero_add, Nat.reduceAdd]; exact rfl) rfl fun s0 hs0 => ?_
  refine zaf ?_
  refine zaj 1 (by simp only [holes, List.cons_append, List.nil_append]; exact rfl) ?_
  refine zac ?_
  refine zam rfl rfl rfl (op_boxam 0 rfl (ev1 rfl) rfl) (by simp only [upd, za, zaa]; exact rfl) ?_
  refine zab rfl rfl rfl (zad (.inr rfl) (ev1 rfl)) ?_
  refine zae ?_
  refine zaf ?_
  refine dwp_draw [([], []), ([], []), ([], []), ([], []), ([], []), ([], []), ([], []), ([], []), ([], []), ([], []), ([], []), ([0], []), ([], []), ([], []), ([], [])] mixed (by kernel_rfl) ?_
  refine lex_r rfl rfl (zad (.inl rfl) (ev1 rfl)) ?_
  refine lex_r rfl rfl (op_nc rfl (ev1 rfl) (fun s v h => by cases h; exact ⟨_, rfl⟩)) ?_
  refine lex_r rfl rfl (op_fadm rfl fo68_6 (ev1 rfl)) ?_
  refine lex_r rfl rfl (op_lddm rfl tb3 (ev1 rfl) rfl) ?_
  refine lex_r rfl rfl (op_geq rfl (ev1 rfl) (ev1 rfl)) ?_
  refine lex_r rfl rfl (zad (.inl rfl) (ev1 rfl)) ?_
  refine lex_gr (zar rfl rfl rfl) rfl rfl (zad (.inl rfl) (ev1 rfl)) ?_
  refine lex_gr (zar rfl rfl rfl) rfl rfl (op_nc rfl (ev2 rfl) (fun s v h => by cases h; exact ⟨_, rfl⟩)) ?_
  refine lex_gr (zar rfl rfl rfl) rfl rfl (op_fadm rfl fo68_6 (ev2 rfl)) ?_
  refine lex_gr (zar rfl rfl rfl) rfl rfl (op_lddm rfl tb3 (ev2 rfl) rfl) ?_
  refine lex_gr (zar rfl rfl rfl) rfl rfl (zap rfl fo164_1 (ev1 rfl)) ?_
  refine lex_gr (zar rfl rfl rfl) rfl rfl (zav rfl tb3 (ev2 rfl) rfl rfl) ?_
  refine lex_gr (zar rfl rfl rfl) rfl rfl (op_leq rfl (ev2 rfl) (ev2 rfl)) ?_
  refine lex_r rfl rfl (zaz rfl (ev1 rfl) (ev3 rfl id)) ?_
  refine lex_r rfl rfl (zad (.inr rfl) (ev1 rfl)) ?_
  refine lex_nil ?_
  refine zau ?_
  refine kend0 (rs1 rfl (rv_t rfl)) rfl ?_
  rfl
set_option maxRecDepth 4000 in
set_option maxHeartbeats 1000000 in
theorem blk4_d (o : OpM) : DFun Tryz.prog 140 [.dpm (opD o)] [] (.val (.bool ((o.sz == 0)))) [] := by
  refine zba (N := 8) 0 (by kernel_rfl) Tryz.func140 rfl rfl rfl (by simp only [fr0, Nat.zero_add, Nat.reduceAdd]; exact rfl) rfl fun s0 hs0 => ?_
  refine zaf ?_
  refine zac ?_
  refine zab rfl rfl rfl (zad (.inr rfl) (ev1 rfl)) ?_
  refine zae ?_
  refine zaf ?_
  refine zac ?_
  refine zab rfl rfl rfl (zad (.inl rfl) (ev1 rfl)) ?_
  refine zab rfl rfl rfl (op_nc rfl (ev1 rfl) (fun s v h => by cases h; exact ⟨_, rfl⟩)) ?_
  refine zab rfl rfl rfl (op_fadm rfl fo68_6 (ev1 rfl)) ?_
  refine zab rfl rfl rfl (op_lddm rfl tb3 (ev1 rfl) rfl) ?_
  refine zab rfl rfl rfl (zb rfl (ev1 rfl) (ev1 rfl)) ?_
  refine zab rfl rfl rfl (zad (.inr rfl) (ev1 rfl)) ?_
  refine zae ?_
  refine zau ?_
  refine kend0 (rs1 rfl (rv_t rfl)) rfl ?_
  rfl
set_option maxRecDepth 4000 in
set_option maxHeartbeats 1000000 in
theorem fit5_d (u m : Int) (a b : D) (o : OpM) : DFun Tryz.prog 142 [.agg [iD u, iD m, a, b], .dpm (opD o)] [] (.val (.bool (true))) [] := by
  refine zba (N := 5) 0 (by kernel_rfl) Tryz.func142 rfl rfl rfl (by simp only [fr0, Nat.zero_add, Nat.reduceAdd]; exact rfl) rfl fun s0 hs0 => ?_
  refine zaf ?_
  refine zaj 1 (by simp only [holes, List.cons_append, List.nil_append]; exact rfl) ?_
  refine zac ?_
  refine zam rfl rfl rfl (op_boxam 0 rfl (ev1 rfl) rfl) (by simp only [upd, za, zaa]; exact rfl) ?_
  refine zab rfl rfl rfl (zad (.inr rfl) (ev1 rfl)) ?_
  refine zae ?_
  refine zaf ?_
  refine zac ?_
  refine zab rfl rfl rfl (zad (.inr rfl) (ev1 rfl)) ?_
  refine zae ?_
  refine zau ?_
  refine kend0 (rs1 rfl (rv_t rfl)) rfl ?_
  rfl
set_option maxRecDepth 4000 in
set_option maxHeartbeats 1000000 in
theorem blk5_d (o : OpM) : DFun Tryz.prog 143 [.dpm (opD o)] [] (.val (.bool (decide (o.co = zC4)))) [] := by
  refine zba (N := 9) 0 (by kernel_rfl) Tryz.func143 rfl rfl rfl (by simp only [fr0, Nat.zero_add, Nat.reduceAdd]; exact rfl) rfl fun s0 hs0 => ?_
  refine zaf ?_
  refine zac ?_
  refine zab rfl rfl rfl (zad (.inr rfl) (ev1 rfl)) ?_
  refine zae ?_
  refine zaf ?_
  refine zac ?_
  refine zab rfl rfl rfl (zad (.inl rfl) (ev1 rfl)) ?_
  refine zab rfl rfl rfl (op_nc rfl (ev1 rfl) (fun s v h => by cases h; exact ⟨_, rfl⟩)) ?_
  refine zab rfl rfl rfl (op_fadm rfl fo68_7 (ev1 rfl)) ?_
  refine zab rfl rfl rfl (op_lddv (c4 o.co) rfl tb63 (ev1 rfl) rfl rfl) ?_
  refine zab rfl rfl rfl (op_build0 rfl fl63 zr63) ?_
  refine zab rfl rfl rfl (op_eqr eq63 rfl gd63 tb63 (ev1 rfl) (ev1 rfl)) ?_
  refine zab rfl rfl rfl (zad (.inr rfl) (ev1 rfl)) ?_
  refine zae ?_
  refine zau ?_
  refine kend0 (rs1 rfl (rv_t rfl)) rfl ?_
  rfl
set_option maxRecDepth 4000 in
set_option maxHeartbeats 1000000 in
theorem fit6_d (u m : Int) (a b : D) (o : OpM) : DFun Tryz.prog 145 [.agg [iD u, iD m, a, b], .dpm (opD o)] [] (.val (.bool ((errOr (stB o.sw o.sh o.px) 190 == 0)))) [] := by
  refine zba (N := 11) 0 (by kernel_rfl) Tryz.func145 rfl rfl rfl (by simp only [fr0, Nat.zero_add, Nat.reduceAdd]; exact rfl) rfl fun s0 hs0 => ?_
  refine zaf ?_
  refine zaj 1 (by simp only [holes, List.cons_append, List.nil_append]; exact rfl) ?_
  refine zac ?_
  refine zam rfl rfl rfl (op_boxam 0 rfl (ev1 rfl) rfl) (by simp only [upd, za, zaa]; exact rfl) ?_
  refine zab rfl rfl rfl (zad (.inr rfl) (ev1 rfl)) ?_
  refine zae ?_
  refine zaf ?_
  refine zac ?_
  refine zab rfl rfl rfl (zad (.inl rfl) (ev1 rfl)) ?_
  refine zab rfl rfl rfl (op_nc rfl (ev1 rfl) (fun s v h => by cases h; exact ⟨_, rfl⟩)) ?_
  refine zab rfl rfl rfl (op_fadm rfl fo68_8 (ev1 rfl)) ?_
  refine zab rfl rfl rfl (op_lddr rfl tb66 (ev1 rfl) rfl rfl) ?_
  refine zab rfl rfl rfl (zah [] [] [] rfl (ev1 rfl) (ec (ev1 rfl) en) rfl rfl (stCheck_d _ _ _) rfl rfl rfl rfl rfl rfl) ?_
  refine zab rfl rfl rfl (zb rfl (ev1 rfl) (ev1 rfl)) ?_
  refine zab rfl rfl rfl (zad (.inr rfl) (ev1 rfl)) ?_
  refine zae ?_
  refine zau ?_
  refine kend0 (rs1 rfl (rv_t rfl)) rfl ?_
  rfl
set_option maxRecDepth 4000 in
set_option maxHeartbeats 1000000 in
theorem blk6_d (o : OpM) : DFun Tryz.prog 147 [.dpm (opD o)] [] (.val (.bool ((((o.sw == 0) && (o.sh == 0)) && decide (o.px = []))))) [] := by
  refine zba (N := 9) 0 (by kernel_rfl) Tryz.func147 rfl rfl rfl (by simp only [fr0, Nat.zero_add, Nat.reduceAdd]; exact rfl) rfl fun s0 hs0 => ?_
  refine zaf ?_
  refine zac ?_
  refine zab rfl rfl rfl (zad (.inr rfl) (ev1 rfl)) ?_
  refine zae ?_
  refine zaf ?_
  refine zac ?_
  refine zab rfl rfl rfl (zad (.inl rfl) (ev1 rfl)) ?_
  refine zab rfl rfl rfl (op_nc rfl (ev1 rfl) (fun s v h => by cases h; exact ⟨_, rfl⟩)) ?_
  refine zab rfl rfl rfl (op_fadm rfl fo68_8 (ev1 rfl)) ?_
  refine zab rfl rfl rfl (op_lddr rfl tb66 (ev1 rfl) rfl rfl) ?_
  refine zab rfl rfl rfl (op_build0 rfl fl66 zr66) ?_
  refine zab rfl rfl rfl (zah [] [] [] rfl (ev1 rfl) (ec (ev1 rfl) (ec (evwk (ev1 rfl) wkSt0) en)) rfl rfl (stSame_d _ _ _ _ _ []) rfl rfl rfl rfl rfl rfl) ?_
  refine zab rfl rfl rfl (zad (.inr rfl) (ev1 rfl)) ?_
  refine zae ?_
  refine zau ?_
  refine kend0 (rs1 rfl (rv_t rfl)) rfl ?_
  rfl
set_option maxRecDepth 4000 in
set_option maxHeartbeats 1000000 in
theorem fit7_d (u m : Int) (a b : D) (o : OpM) : DFun Tryz.prog 151 [.agg [iD u, iD m, a, b], .dpm (opD o)] [] (.val (.bool (((errOr (mayR o.tg) 210 == 0) && lessR o.tg o.id)))) [] := by
  refine zba (N := 22) 0 (by kernel_rfl) Tryz.func151 rfl rfl rfl (by simp only [fr0, Nat.zero_add, Nat.reduceAdd]; exact rfl) rfl fun s0 hs0 => ?_
  refine zaf ?_
  refine zaj 1 (by simp only [holes, List.cons_append, List.nil_append]; exact rfl) ?_
  refine zac ?_
  refine zam rfl rfl rfl (op_boxam 0 rfl (ev1 rfl) rfl) (by simp only [upd, za, zaa]; exact rfl) ?_
  refine zab rfl rfl rfl (zad (.inr rfl) (ev1 rfl)) ?_
  refine zae ?_
  refine zaf ?_
  refine dwp_draw [([], []), ([], []), ([], []), ([], []), ([], []), ([], []), ([], []), ([], []), ([], []), ([], []), ([], []), ([], []), ([], []), ([], []), ([], []), ([], []), ([], []), ([], [])] mixed (by kernel_rfl) ?_
  refine lex_r rfl rfl (zad (.inl rfl) (ev1 rfl)) ?_
  refine lex_r rfl rfl (op_nc rfl (ev1 rfl) (fun s v h => by cases h; exact ⟨_, rfl⟩)) ?_
  refine lex_r rfl rfl (op_fadm rfl fo68_9 (ev1 rfl)) ?_
  refine lex_r rfl rfl (op_lddv (idc o.tg) rfl tb61 (ev1 rfl) rfl rfl) ?_
  refine lex_r rfl rfl (zah [] [] [] rfl (ev1 rfl) (ec (ev1 rfl) en) rfl rfl (idCheck_d _) rfl rfl rfl rfl rfl rfl) ?_
  refine lex_r rfl rfl (zb rfl (ev1 rfl) (ev1 rfl)) ?_
  refine lex_r rfl rfl (zad (.inl rfl) (ev1 rfl)) ?_
  refine lex_gr (zar rfl rfl rfl) rfl rfl (zad (.inl rfl) (ev1 rfl)) ?_
  refine lex_gr (zar rfl rfl rfl) rfl rfl (op_nc rfl (ev2 rfl) (fun s v h => by cases h; exact ⟨_, rfl⟩)) ?_
  refine lex_gr (zar rfl rfl rfl) rfl rfl (op_fadm rfl fo68_9 (ev2 rfl)) ?_
  refine lex_gr (zar rfl rfl rfl) rfl rfl (op_lddv (idc o.tg) rfl tb61 (ev2 rfl) rfl rfl) ?_
  refine lex_gr (zar rfl rfl rfl) rfl rfl (zad (.inl rfl) (ev1 rfl)) ?_
  refine lex_gr (zar rfl rfl rfl) rfl rfl (op_nc rfl (ev2 rfl) (fun s v h => by cases h; exact ⟨_, rfl⟩)) ?_
  refine lex_gr (zar rfl rfl rfl) rfl rfl (op_fadm rfl fo68_0 (ev2 rfl)) ?_
  refine lex_gr (zar rfl rfl rfl) rfl rfl (op_lddv (idc o.id) rfl tb61 (ev2 rfl) rfl rfl) ?_
  refine lex_gr (zar rfl rfl rfl) rfl rfl (zah [] [] [] rfl (ev1 rfl) (ec (ev2 rfl) (ec (ev2 rfl) en)) rfl rfl (idLess_d _ _) rfl rfl rfl rfl rfl rfl) ?_
  refine lex_r rfl rfl (zaz rfl (ev1 rfl) (ev3 rfl id)) ?_
  refine lex_r rfl rfl (zad (.inr rfl) (ev1 rfl)) ?_
  refine lex_nil ?_
  refine zau ?_
  refine kend0 (rs1 rfl (rv_t rfl)) rfl ?_
  rfl
set_option maxRecDepth 4000 in
set_option maxHeartbeats 1000000 in
theorem blk7_d (o : OpM) : DFun Tryz.prog 152 [.dpm (opD o)] [] (.val (.bool (eqI o.tg zI3))) [] := by
  refine zba (N := 9) 0 (by kernel_rfl) Tryz.func152 rfl rfl rfl (by simp only [fr0, Nat.zero_add, Nat.reduceAdd]; exact rfl) rfl fun s0 hs0 => ?_
  refine zaf ?_
  refine zac ?_
  refine zab rfl rfl rfl (zad (.inr rfl) (ev1 rfl)) ?_
  refine zae ?_
  refine zaf ?_
  refine zac ?_
  refine zab rfl rfl rfl (zad (.inl rfl) (ev1 rfl)) ?_
  refine zab rfl rfl rfl (op_nc rfl (ev1 rfl) (fun s v h => by cases h; exact ⟨_, rfl⟩)) ?_
  refine zab rfl rfl rfl (op_fadm rfl fo68_9 (ev1 rfl)) ?_
  refine zab rfl rfl rfl (op_lddv (idc o.tg) rfl tb61 (ev1 rfl) rfl rfl) ?_
  refine zab rfl rfl rfl (op_build0 rfl fl61 zr61) ?_
  refine zab rfl rfl rfl (op_eqr eq61 rfl gd61 tb61 (ev1 rfl) (ev1 rfl)) ?_
  refine zab rfl rfl rfl (zad (.inr rfl) (ev1 rfl)) ?_
  refine zae ?_
  refine zau ?_
  refine kend0 (rs1 rfl (rv_t rfl)) rfl ?_
  rfl
end Go.Proofs.YtnjnhghafjlmbaaGreat
