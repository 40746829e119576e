/- snapshots that are read; snapshots, there and back; wakes; bytes that are read, and back; arguments that are opened. No condition. -/
import Derived.Test.YtofklkbfkoliiaaGreatQ6
import Derived.Test.YtofklkbfkoliiaaGreatRows
set_option maxRecDepth 4000
set_option maxHeartbeats 1000000
open List renaming length_append → qbf, cons_append → qbp, nil_append → qbq, replicate → qbs, length_cons → qbC, length_take → qbD, length_drop → qbF, getD_eq_getElem?_getD → qbI, append_assoc → qbM, getElem?_eq_none → qbN, append_nil → qbV
open Nat renaming zero_add → qbh, reduceAdd → qbj, le_of_ble_eq_true → qbr, le_trans → qbE
open Bool renaming and_eq_true → qbi
namespace Go.Proofs.YtofklkbfkoliiaaGreat
set_option linter.unusedVariables false
set_option linter.unusedSimpArgs false
open Go.RowKit
attribute [local irreducible] tkN k6 kw kO yj qT kR YZ jk Jh
theorem GV : fdL Tryz.prog 29 = some [(0, 3), (3, 1), (4, 1), (5, 9)] := by kernel_rfl
theorem jZ : zrC Tryz.prog 29 = some [.int .i64 0, .int .i64 0, .slice none 0 0, .int .u64 0, .int .u64 0, .int .u64 0, .int .u64 0, .int .u64 0, .int .u64 0, .int .u64 0, .int .u64 0, .int .u64 0, .int .u64 0, .int .u64 0] := by kernel_rfl
theorem Qd (s : SnM) (e : Int) : DDef Tryz.prog 55 [.loc 0 0, .loc 1 0] [.mix 29 (snL s), .flat 34 [.int .i64 e]] none none [.mix 29 (snL s), .flat 34 [.int .i64 e]] := by
 refine xn (dr := .tup []) (t := 2) (N := 6) 2 (by kernel_rfl) Tryz.func55 rfl rfl rfl (by simp only [fr0, qbh, qbj]; exact rfl) rfl rfl rfl rfl rfl fun s0 hs0 => ?_
 refine za rfl (zak [] [] [] rfl (ev1 rfl) (ec (ev1 rfl) en) rfl rfl (vY) rfl rfl rfl rfl rfl rfl) ?_
 refine za rfl (qV rfl (ev1 rfl) (ev1 rfl)) ?_
 refine zab ?_
 refine qf rfl (rfl) ?_
 refine zao ?_
 refine km [0, 1] (qI rfl) rfl rfl ?_ ⟨rfl, rfl, trivial⟩
 rfl
theorem uu (f st : Int) (v : Vec) (e n : Int) (hn : n ≠ 0) : DDef Tryz.prog 55 [.loc 0 0, .loc 1 0] [.mix 29 ([.int .i64 0, .int .i64 0, .slice none 0 0, .int .u64 f, .int .u64 st, .int .u64 (v 0), .int .u64 (v 1), .int .u64 (v 2), .int .u64 (v 3), .int .u64 (v 4), .int .u64 (v 5), .int .u64 (v 6), .int .u64 (v 7), .int .u64 (v 8)].map D.val), .flat 34 [.int .i64 e]] (some (.ifc 125 (.val (.agg #[.int .i64 n])))) none [.mix 29 ([.int .i64 0, .int .i64 0, .slice none 0 0, .int .u64 0, .int .u64 0, .int .u64 0, .int .u64 0, .int .u64 0, .int .u64 0, .int .u64 0, .int .u64 0, .int .u64 0, .int .u64 0, .int .u64 0].map D.val), .flat 34 [.int .i64 310]] := by
 refine xn (dr := .tup []) (t := 2) (N := 6) 2 (by kernel_rfl) Tryz.func55 rfl rfl rfl (by simp only [fr0, qbh, qbj]; exact rfl) rfl rfl rfl rfl rfl fun s0 hs0 => ?_
 refine za rfl (zak [] [] [] rfl (ev1 rfl) (ec (ev1 rfl) en) rfl rfl (xK n) rfl rfl rfl rfl rfl rfl) ?_
 refine za rfl (qV rfl (ev1 rfl) (ev1 rfl)) ?_
 refine zab ?_
 refine qt rfl (by simpa using hn) ?_
 refine zac ?_
 refine za rfl (kH rfl GV jZ) ?_
 refine zaq rfl (gt rfl kr (ev1 rfl) (wQ (ev1 rfl) (Wk.vagg _)) rfl rfl rfl rfl rfl) ?_
 refine zaq rfl (qN rfl kc (ev1 rfl) (ev1 rfl) rfl) ?_
 refine zab ?_
 refine km [0, 1] (qI rfl) rfl rfl ?_ ⟨rfl, rfl, trivial⟩
 rfl
theorem WT (s : SnM) (e n : Int) (hn : n ≠ 0) : DDef Tryz.prog 55 [.loc 0 0, .loc 1 0] [.mix 29 (snL s), .flat 34 [.int .i64 e]] (some (.ifc 125 (.val (.agg #[.int .i64 n])))) none [.mix 29 ([.int .i64 0, .int .i64 0, .slice none 0 0, .int .u64 0, .int .u64 0, .int .u64 0, .int .u64 0, .int .u64 0, .int .u64 0, .int .u64 0, .int .u64 0, .int .u64 0, .int .u64 0, .int .u64 0].map D.val), .flat 34 [.int .i64 310]] := by
 refine xn (dr := .tup []) (t := 2) (N := 6) 2 (by kernel_rfl) Tryz.func55 rfl rfl rfl (by simp only [fr0, qbh, qbj]; exact rfl) rfl rfl rfl rfl rfl fun s0 hs0 => ?_
 refine za rfl (zak [] [] [] rfl (ev1 rfl) (ec (ev1 rfl) en) rfl rfl (xK n) rfl rfl rfl rfl rfl rfl) ?_
 refine za rfl (qV rfl (ev1 rfl) (ev1 rfl)) ?_
 refine zab ?_
 refine qt rfl (by simpa using hn) ?_
 refine zac ?_
 refine za rfl (kH rfl GV jZ) ?_
 refine zaq rfl (gt rfl kr (ev1 rfl) (wQ (ev1 rfl) (Wk.vagg _)) rfl rfl rfl rfl rfl) ?_
 refine zaq rfl (qN rfl kc (ev1 rfl) (ev1 rfl) rfl) ?_
 refine zab ?_
 refine km [0, 1] (qI rfl) rfl rfl ?_ ⟨rfl, rfl, trivial⟩
 rfl
theorem v4 {l r : List Int} {v : Vec} (hl : okL l) (h : yk l = .ok v r) : 64 ≤ l.length ∧ r = l.drop 64 ∧ r.length = l.length - 64 ∧ vB v = true ∧ (∀ i, 9 ≤ i → v i = 0) ∧ l = yj v ++ r := by
 obtain ⟨h1, h2, h3⟩ := (XF 110 290).bwd l v r hl.1 h
 have h4 := yh v
 have h5 : l.length = 64 + r.length := by rw [h1, qbf, h4]
 refine ⟨by omega, ?_, by omega, h2, h3, h1⟩
 rw [h1, List.drop_left' h4]
theorem X4 (b : List Int) (hl : b.length ≤ 30000) (hi : isB b) (h : b.length < 8) : DFun Tryz.prog 17 [.slf 1 (b).length ((b).flatMap uc8)] [] (.tup [.agg ([.int .i64 0, .int .i64 0, .slice none 0 0, .int .u64 0, .int .u64 0, .int .u64 0, .int .u64 0, .int .u64 0, .int .u64 0, .int .u64 0, .int .u64 0, .int .u64 0, .int .u64 0, .int .u64 0].map D.val), .val (.int .i64 310)]) [] := by
 refine qA (N := 57) 0 (by kernel_rfl) Tryz.func17 rfl rfl rfl (by simp only [fr0, qbh, qbj]; exact rfl) rfl fun s0 hs0 => ?_
 refine qP rfl hs0 ?_
 refine zam 2 ?_
 refine zac ?_
 refine zal rfl (zan 0 rfl jZ rfl) ?_
 refine zal rfl (zan 1 rfl gB rfl) ?_
 refine zab ?_
 refine qD (l0 := [_]) rfl rfl rfl rfl rfl hs0 ?_
 refine za rfl (ki rfl en (ec (ev1 rfl) (ec (ev1 rfl) en))) ?_
 refine zab ⟨_, _, _, 2, ev1 rfl, qbE hs0 (by decide), rfl, ?_⟩
 have hs1 : s0.M.length ≤ 2 := qbE hs0 (by decide)
 refine qO rfl hs0 ?_
 refine zad ?_
 refine jf 0 yO rfl rfl (by simp only [qbp, qbq, zaf, zag, List.map]; exact rfl) ?_
 refine zac ?_
 refine zaa 1 rfl ?_
 refine za rfl (zak [] [] [] rfl (ev1 rfl) (ec (ev1 rfl) (ec (ev1 rfl) (ec (ev1 rfl) en))) rfl rfl (VT b (by omega) 0 (by omega) (by omega)) rfl rfl rfl rfl rfl rfl) ?_
 refine zaa 2 rfl ?_
 refine kz rfl (qQ [] [] [] rfl (ev1 rfl) (ec (ev1 rfl) (ec (ev1 rfl) en)) rfl rfl (Y6 _ _ rfl) rfl rfl rfl rfl rfl rfl) rfl ?_
 refine gq (qZ [0, 1] [] rfl rfl rfl (uu _ _ z9 _ _ (by first | decide | assumption)) rfl rfl rfl rfl rfl) ?_
 refine qo (rs2 rfl (vQ kr rfl rfl rfl) (j4 kc rfl rfl rfl)) rfl ?_
 rfl
theorem X5 (b : List Int) (hl : b.length ≤ 30000) (hi : isB b) (h8 : 8 ≤ b.length) (h : b.length < 16) : DFun Tryz.prog 17 [.slf 1 (b).length ((b).flatMap uc8)] [] (.tup [.agg ([.int .i64 0, .int .i64 0, .slice none 0 0, .int .u64 0, .int .u64 0, .int .u64 0, .int .u64 0, .int .u64 0, .int .u64 0, .int .u64 0, .int .u64 0, .int .u64 0, .int .u64 0, .int .u64 0].map D.val), .val (.int .i64 310)]) [] := by
 refine qA (N := 57) 0 (by kernel_rfl) Tryz.func17 rfl rfl rfl (by simp only [fr0, qbh, qbj]; exact rfl) rfl fun s0 hs0 => ?_
 refine qP rfl hs0 ?_
 refine zam 2 ?_
 refine zac ?_
 refine zal rfl (zan 0 rfl jZ rfl) ?_
 refine zal rfl (zan 1 rfl gB rfl) ?_
 refine zab ?_
 refine qD (l0 := [_]) rfl rfl rfl rfl rfl hs0 ?_
 refine za rfl (ki rfl en (ec (ev1 rfl) (ec (ev1 rfl) en))) ?_
 refine zab ⟨_, _, _, 2, ev1 rfl, qbE hs0 (by decide), rfl, ?_⟩
 have hs1 : s0.M.length ≤ 2 := qbE hs0 (by decide)
 refine qO rfl hs0 ?_
 refine zad ?_
 refine jf 0 yO rfl rfl (by simp only [qbp, qbq, zaf, zag, List.map]; exact rfl) ?_
 refine zac ?_
 refine zaa 1 rfl ?_
 refine za rfl (zak [] [] [] rfl (ev1 rfl) (ec (ev1 rfl) (ec (ev1 rfl) (ec (ev1 rfl) en))) rfl rfl (yS b (by omega) 0 (by omega)) rfl rfl rfl rfl rfl rfl) ?_
 refine zaa 2 rfl ?_
 refine za rfl (zak [] [] [] rfl (ev1 rfl) (ec (ev1 rfl) (ec (ev1 rfl) en)) rfl rfl (yd (kw 8 b)) rfl rfl rfl rfl rfl rfl) ?_
 refine za rfl (zas rfl yu (ev1 rfl)) ?_
 refine zaq rfl (kQ rfl kC (ev1 rfl) (ev1 rfl) (fun s v h => by cases h <;> exact ⟨rfl, rfl⟩) rfl (by first | decide | exact qbr rfl | simp)) ?_
 refine zab ?_
 refine zai ?_
 refine zaa 1 rfl ?_
 refine za rfl (zak [] [] [] rfl (ev1 rfl) (ec (ev1 rfl) (ec (ev1 rfl) (ec (ev1 rfl) en))) rfl rfl (VT b (by omega) 8 (by omega) (by omega)) rfl rfl rfl rfl rfl rfl) ?_
 refine zaa 2 rfl ?_
 refine kz rfl (qQ [] [] [] rfl (ev1 rfl) (ec (ev1 rfl) (ec (ev1 rfl) en)) rfl rfl (Y6 _ _ rfl) rfl rfl rfl rfl rfl rfl) rfl ?_
 refine gq (qZ [0, 1] [] rfl rfl rfl (uu _ _ z9 _ _ (by first | decide | assumption)) rfl rfl rfl rfl rfl) ?_
 refine qo (rs2 rfl (vQ kr rfl rfl rfl) (j4 kc rfl rfl rfl)) rfl ?_
 rfl
theorem X6 (b : List Int) (hl : b.length ≤ 30000) (hi : isB b) (h16 : 16 ≤ b.length) (e : Int) (he : e ≠ 0) (hv : yk (b.drop 16) = .err e) : DFun Tryz.prog 17 [.slf 1 (b).length ((b).flatMap uc8)] [] (.tup [.agg ([.int .i64 0, .int .i64 0, .slice none 0 0, .int .u64 0, .int .u64 0, .int .u64 0, .int .u64 0, .int .u64 0, .int .u64 0, .int .u64 0, .int .u64 0, .int .u64 0, .int .u64 0, .int .u64 0].map D.val), .val (.int .i64 310)]) [] := by
 have hld : (b.drop 16).length = b.length - 16 := qbF
 have hk1 : okL (b.drop 16) := ⟨q0 hi 16, by omega⟩
 refine qA (N := 57) 0 (by kernel_rfl) Tryz.func17 rfl rfl rfl (by simp only [fr0, qbh, qbj]; exact rfl) rfl fun s0 hs0 => ?_
 refine qP rfl hs0 ?_
 refine zam 2 ?_
 refine zac ?_
 refine zal rfl (zan 0 rfl jZ rfl) ?_
 refine zal rfl (zan 1 rfl gB rfl) ?_
 refine zab ?_
 refine qD (l0 := [_]) rfl rfl rfl rfl rfl hs0 ?_
 refine za rfl (ki rfl en (ec (ev1 rfl) (ec (ev1 rfl) en))) ?_
 refine zab ⟨_, _, _, 2, ev1 rfl, qbE hs0 (by decide), rfl, ?_⟩
 have hs1 : s0.M.length ≤ 2 := qbE hs0 (by decide)
 refine qO rfl hs0 ?_
 refine zad ?_
 refine jf 0 yO rfl rfl (by simp only [qbp, qbq, zaf, zag, List.map]; exact rfl) ?_
 refine zac ?_
 refine zaa 1 rfl ?_
 refine za rfl (zak [] [] [] rfl (ev1 rfl) (ec (ev1 rfl) (ec (ev1 rfl) (ec (ev1 rfl) en))) rfl rfl (yS b (by omega) 0 (by omega)) rfl rfl rfl rfl rfl rfl) ?_
 refine zaa 2 rfl ?_
 refine za rfl (zak [] [] [] rfl (ev1 rfl) (ec (ev1 rfl) (ec (ev1 rfl) en)) rfl rfl (yd (kw 8 b)) rfl rfl rfl rfl rfl rfl) ?_
 refine za rfl (zas rfl yu (ev1 rfl)) ?_
 refine zaq rfl (kQ rfl kC (ev1 rfl) (ev1 rfl) (fun s v h => by cases h <;> exact ⟨rfl, rfl⟩) rfl (by first | decide | exact qbr rfl | simp)) ?_
 refine zab ?_
 refine zai ?_
 refine zaa 1 rfl ?_
 refine za rfl (zak [] [] [] rfl (ev1 rfl) (ec (ev1 rfl) (ec (ev1 rfl) (ec (ev1 rfl) en))) rfl rfl (yS b (by omega) 8 (by omega)) rfl rfl rfl rfl rfl rfl) ?_
 refine zaa 2 rfl ?_
 refine za rfl (zak [] [] [] rfl (ev1 rfl) (ec (ev1 rfl) (ec (ev1 rfl) en)) rfl rfl (yd (kw 8 (b.drop 8))) rfl rfl rfl rfl rfl rfl) ?_
 refine za rfl (zas rfl yg (ev1 rfl)) ?_
 refine zaq rfl (kQ rfl kC (ev1 rfl) (ev1 rfl) (fun s v h => by cases h <;> exact ⟨rfl, rfl⟩) rfl (by first | decide | exact qbr rfl | simp)) ?_
 refine zab ?_
 refine zai ?_
 refine zaa 1 rfl ?_
 refine zab ?_
 refine zai ?_
 refine zaa 1 rfl ?_
 refine za rfl (kY (i := 16) rfl qg (ev1 rfl) (qR (ev1 rfl)) (fun _ => by omega) (fun _ => by omega) (fun _ => rfl)) ?_
 refine zaa 1 rfl ?_
 refine zab ?_
 refine zai ?_
 refine zaa 1 rfl ?_
 refine za rfl (zak [] [] [] rfl (ev1 rfl) (ec (ev1 rfl) en) rfl rfl (Jg (b.drop 16) hk1 (by omega) e hv) rfl rfl rfl rfl rfl rfl) ?_
 refine zaa 4 rfl ?_
 refine za rfl (zas rfl yv (ev1 rfl)) ?_
 refine zaq rfl (gt rfl jx (ev1 rfl) (wQ (ev1 rfl) (Wk.vagg _)) rfl rfl rfl rfl rfl) ?_
 refine zaa 1 rfl ?_
 refine zaq rfl (qN rfl kc (ev1 rfl) (ev1 rfl) rfl) ?_
 refine zab ?_
 refine zai ?_
 refine za rfl (qx rfl kc (ev1 rfl) rfl rfl) ?_
 refine za rfl (qj rfl (ev1 rfl) (ev1 rfl)) ?_
 refine za rfl (qx rfl kc (ev1 rfl) rfl rfl) ?_
 refine kz rfl (qQ [] [] [] rfl (ev1 rfl) (ec (ev1 rfl) (ec (ev1 rfl) en)) rfl rfl (yc _ _ (by simpa using he)) rfl rfl rfl rfl rfl rfl) rfl ?_
 refine gq (qZ [0, 1] [] rfl rfl rfl (uu _ _ z9 _ _ (by first | decide | assumption)) rfl rfl rfl rfl rfl) ?_
 refine qo (rs2 rfl (vQ kr rfl rfl rfl) (j4 kc rfl rfl rfl)) rfl ?_
 rfl
theorem X7 (b : List Int) (hl : b.length ≤ 30000) (hi : isB b) (h16 : 16 ≤ b.length) (v : Vec) (r : List Int) (hv : yk (b.drop 16) = .ok v r) (hx : Jh r) : DFun Tryz.prog 17 [.slf 1 (b).length ((b).flatMap uc8)] [] (.tup [.agg ([.int .i64 0, .int .i64 0, .slice none 0 0, .int .u64 0, .int .u64 0, .int .u64 0, .int .u64 0, .int .u64 0, .int .u64 0, .int .u64 0, .int .u64 0, .int .u64 0, .int .u64 0, .int .u64 0].map D.val), .val (.int .i64 310)]) [] := by
 have hld : (b.drop 16).length = b.length - 16 := qbF
 have hk1 : okL (b.drop 16) := ⟨q0 hi 16, by omega⟩
 obtain ⟨hr64, hre, hrl, hvB, hv9, hrv⟩ := v4 hk1 hv
 have hir : isB r := by rw [hre]; exact q0 (q0 hi 16) 64
 refine qA (N := 57) 0 (by kernel_rfl) Tryz.func17 rfl rfl rfl (by simp only [fr0, qbh, qbj]; exact rfl) rfl fun s0 hs0 => ?_
 refine qP rfl hs0 ?_
 refine zam 2 ?_
 refine zac ?_
 refine zal rfl (zan 0 rfl jZ rfl) ?_
 refine zal rfl (zan 1 rfl gB rfl) ?_
 refine zab ?_
 refine qD (l0 := [_]) rfl rfl rfl rfl rfl hs0 ?_
 refine za rfl (ki rfl en (ec (ev1 rfl) (ec (ev1 rfl) en))) ?_
 refine zab ⟨_, _, _, 2, ev1 rfl, qbE hs0 (by decide), rfl, ?_⟩
 have hs1 : s0.M.length ≤ 2 := qbE hs0 (by decide)
 refine qO rfl hs0 ?_
 refine zad ?_
 refine jf 0 yO rfl rfl (by simp only [qbp, qbq, zaf, zag, List.map]; exact rfl) ?_
 refine zac ?_
 refine zaa 1 rfl ?_
 refine za rfl (zak [] [] [] rfl (ev1 rfl) (ec (ev1 rfl) (ec (ev1 rfl) (ec (ev1 rfl) en))) rfl rfl (yS b (by omega) 0 (by omega)) rfl rfl rfl rfl rfl rfl) ?_
 refine zaa 2 rfl ?_
 refine za rfl (zak [] [] [] rfl (ev1 rfl) (ec (ev1 rfl) (ec (ev1 rfl) en)) rfl rfl (yd (kw 8 b)) rfl rfl rfl rfl rfl rfl) ?_
 refine za rfl (zas rfl yu (ev1 rfl)) ?_
 refine zaq rfl (kQ rfl kC (ev1 rfl) (ev1 rfl) (fun s v h => by cases h <;> exact ⟨rfl, rfl⟩) rfl (by first | decide | exact qbr rfl | simp)) ?_
 refine zab ?_
 refine zai ?_
 refine zaa 1 rfl ?_
 refine za rfl (zak [] [] [] rfl (ev1 rfl) (ec (ev1 rfl) (ec (ev1 rfl) (ec (ev1 rfl) en))) rfl rfl (yS b (by omega) 8 (by omega)) rfl rfl rfl rfl rfl rfl) ?_
 refine zaa 2 rfl ?_
 refine za rfl (zak [] [] [] rfl (ev1 rfl) (ec (ev1 rfl) (ec (ev1 rfl) en)) rfl rfl (yd (kw 8 (b.drop 8))) rfl rfl rfl rfl rfl rfl) ?_
 refine za rfl (zas rfl yg (ev1 rfl)) ?_
 refine zaq rfl (kQ rfl kC (ev1 rfl) (ev1 rfl) (fun s v h => by cases h <;> exact ⟨rfl, rfl⟩) rfl (by first | decide | exact qbr rfl | simp)) ?_
 refine zab ?_
 refine zai ?_
 refine zaa 1 rfl ?_
 refine zab ?_
 refine zai ?_
 refine zaa 1 rfl ?_
 refine za rfl (kY (i := 16) rfl qg (ev1 rfl) (qR (ev1 rfl)) (fun _ => by omega) (fun _ => by omega) (fun _ => rfl)) ?_
 refine zaa 1 rfl ?_
 refine zab ?_
 refine zai ?_
 refine zaa 1 rfl ?_
 refine za rfl (zak [] [] [] rfl (ev1 rfl) (ec (ev1 rfl) en) rfl rfl (vI (b.drop 16) hk1 (by omega) v r hv (by omega)) rfl rfl rfl rfl rfl rfl) ?_
 refine zaa 4 rfl ?_
 refine za rfl (zas rfl yv (ev1 rfl)) ?_
 refine zaq rfl (gt rfl jx (ev1 rfl) (wQ (ev1 rfl) (Wk.vagg _)) rfl rfl rfl rfl rfl) ?_
 refine zaa 1 rfl ?_
 refine zaq rfl (qN rfl kc (ev1 rfl) (ev1 rfl) rfl) ?_
 refine zab ?_
 refine zai ?_
 refine za rfl (qx rfl kc (ev1 rfl) rfl rfl) ?_
 refine za rfl (qj rfl (ev1 rfl) (ev1 rfl)) ?_
 refine za rfl (qx rfl kc (ev1 rfl) rfl rfl) ?_
 refine za rfl (zak [] [] [] rfl (ev1 rfl) (ec (ev1 rfl) (ec (ev1 rfl) en)) rfl rfl (ky _ _ (rfl)) rfl rfl rfl rfl rfl rfl) ?_
 refine zab ?_
 refine zai ?_
 refine zaa 2 rfl ?_
 refine za rfl ((kY (i := 64) rfl qg (ev1 rfl) (qR (ev1 rfl)) (fun _ => by omega) (fun _ => by omega) (fun _ => rfl)).cast (d' := .slf 1 (r).length ((r).flatMap uc8)) (by rw [hre])) ?_
 refine zaa 1 rfl ?_
 refine zab ?_
 refine zai ?_
 refine zaa 1 rfl ?_
 refine za rfl (zak [] [] [] rfl (ev1 rfl) (ec (ev1 rfl) en) rfl rfl (qaL r (by omega) hir hx) rfl rfl rfl rfl rfl rfl) ?_
 refine zaa 4 rfl ?_
 refine za rfl (zas rfl gM (ev1 rfl)) ?_
 refine zaq rfl (gt rfl gm (ev1 rfl) (wQ (ev1 rfl) (Wk.vagg _)) rfl rfl rfl rfl rfl) ?_
 refine zaa 1 rfl ?_
 refine zaq rfl (qN rfl kc (ev1 rfl) (ev1 rfl) rfl) ?_
 refine zab ?_
 refine zai ?_
 refine za rfl (qx rfl kc (ev1 rfl) rfl rfl) ?_
 refine za rfl (qj rfl (ev1 rfl) (ev1 rfl)) ?_
 refine za rfl (qx rfl kc (ev1 rfl) rfl rfl) ?_
 refine kz rfl (qQ [] [] [] rfl (ev1 rfl) (ec (ev1 rfl) (ec (ev1 rfl) en)) rfl rfl (yc _ _ (rfl)) rfl rfl rfl rfl rfl rfl) rfl ?_
 refine gq (qZ [0, 1] [] rfl rfl rfl (uu _ _ v _ _ (by first | decide | assumption)) rfl rfl rfl rfl rfl) ?_
 refine qo (rs2 rfl (vQ kr rfl rfl rfl) (j4 kc rfl rfl rfl)) rfl ?_
 rfl
theorem X8 (b : List Int) (hl : b.length ≤ 30000) (hi : isB b) (h16 : 16 ≤ b.length) (v : Vec) (r : List Int) (hv : yk (b.drop 16) = .ok v r) (n : Nat) (h2 : 0 + 2 ≤ r.length) (hm : jV (bAt r 0) (bAt r 1) = true) (hn : bAt r 0 * bAt r 1 = (n : Int)) (us : List TL) (q : Nat) (h0 : jk qy r n [] 2 = some (us, q)) (hbad : ¬ (q = r.length ∧ gu (⟨bAt r 0, bAt r 1, us, kw 8 b, kw 8 (b.drop 8), v⟩ : SnM) = true)) : DFun Tryz.prog 17 [.slf 1 (b).length ((b).flatMap uc8)] [] (.tup [.agg ([.int .i64 0, .int .i64 0, .slice none 0 0, .int .u64 0, .int .u64 0, .int .u64 0, .int .u64 0, .int .u64 0, .int .u64 0, .int .u64 0, .int .u64 0, .int .u64 0, .int .u64 0, .int .u64 0].map D.val), .val (.int .i64 310)]) [] := by
 have hld : (b.drop 16).length = b.length - 16 := qbF
 have hk1 : okL (b.drop 16) := ⟨q0 hi 16, by omega⟩
 obtain ⟨hr64, hre, hrl, hvB, hv9, hrv⟩ := v4 hk1 hv
 have hir : isB r := by rw [hre]; exact q0 (q0 hi 16) 64
 refine qA (N := 57) 0 (by kernel_rfl) Tryz.func17 rfl rfl rfl (by simp only [fr0, qbh, qbj]; exact rfl) rfl fun s0 hs0 => ?_
 refine qP rfl hs0 ?_
 refine zam 2 ?_
 refine zac ?_
 refine zal rfl (zan 0 rfl jZ rfl) ?_
 refine zal rfl (zan 1 rfl gB rfl) ?_
 refine zab ?_
 refine qD (l0 := [_]) rfl rfl rfl rfl rfl hs0 ?_
 refine za rfl (ki rfl en (ec (ev1 rfl) (ec (ev1 rfl) en))) ?_
 refine zab ⟨_, _, _, 2, ev1 rfl, qbE hs0 (by decide), rfl, ?_⟩
 have hs1 : s0.M.length ≤ 2 := qbE hs0 (by decide)
 refine qO rfl hs0 ?_
 refine zad ?_
 refine jf 0 yO rfl rfl (by simp only [qbp, qbq, zaf, zag, List.map]; exact rfl) ?_
 refine zac ?_
 refine zaa 1 rfl ?_
 refine za rfl (zak [] [] [] rfl (ev1 rfl) (ec (ev1 rfl) (ec (ev1 rfl) (ec (ev1 rfl) en))) rfl rfl (yS b (by omega) 0 (by omega)) rfl rfl rfl rfl rfl rfl) ?_
 refine zaa 2 rfl ?_
 refine za rfl (zak [] [] [] rfl (ev1 rfl) (ec (ev1 rfl) (ec (ev1 rfl) en)) rfl rfl (yd (kw 8 b)) rfl rfl rfl rfl rfl rfl) ?_
 refine za rfl (zas rfl yu (ev1 rfl)) ?_
 refine zaq rfl (kQ rfl kC (ev1 rfl) (ev1 rfl) (fun s v h => by cases h <;> exact ⟨rfl, rfl⟩) rfl (by first | decide | exact qbr rfl | simp)) ?_
 refine zab ?_
 refine zai ?_
 refine zaa 1 rfl ?_
 refine za rfl (zak [] [] [] rfl (ev1 rfl) (ec (ev1 rfl) (ec (ev1 rfl) (ec (ev1 rfl) en))) rfl rfl (yS b (by omega) 8 (by omega)) rfl rfl rfl rfl rfl rfl) ?_
 refine zaa 2 rfl ?_
 refine za rfl (zak [] [] [] rfl (ev1 rfl) (ec (ev1 rfl) (ec (ev1 rfl) en)) rfl rfl (yd (kw 8 (b.drop 8))) rfl rfl rfl rfl rfl rfl) ?_
 refine za rfl (zas rfl yg (ev1 rfl)) ?_
 refine zaq rfl (kQ rfl kC (ev1 rfl) (ev1 rfl) (fun s v h => by cases h <;> exact ⟨rfl, rfl⟩) rfl (by first | decide | exact qbr rfl | simp)) ?_
 refine zab ?_
 refine zai ?_
 refine zaa 1 rfl ?_
 refine zab ?_
 refine zai ?_
 refine zaa 1 rfl ?_
 refine za rfl (kY (i := 16) rfl qg (ev1 rfl) (qR (ev1 rfl)) (fun _ => by omega) (fun _ => by omega) (fun _ => rfl)) ?_
 refine zaa 1 rfl ?_
 refine zab ?_
 refine zai ?_
 refine zaa 1 rfl ?_
 refine za rfl (zak [] [] [] rfl (ev1 rfl) (ec (ev1 rfl) en) rfl rfl (vI (b.drop 16) hk1 (by omega) v r hv (by omega)) rfl rfl rfl rfl rfl rfl) ?_
 refine zaa 4 rfl ?_
 refine za rfl (zas rfl yv (ev1 rfl)) ?_
 refine zaq rfl (gt rfl jx (ev1 rfl) (wQ (ev1 rfl) (Wk.vagg _)) rfl rfl rfl rfl rfl) ?_
 refine zaa 1 rfl ?_
 refine zaq rfl (qN rfl kc (ev1 rfl) (ev1 rfl) rfl) ?_
 refine zab ?_
 refine zai ?_
 refine za rfl (qx rfl kc (ev1 rfl) rfl rfl) ?_
 refine za rfl (qj rfl (ev1 rfl) (ev1 rfl)) ?_
 refine za rfl (qx rfl kc (ev1 rfl) rfl rfl) ?_
 refine za rfl (zak [] [] [] rfl (ev1 rfl) (ec (ev1 rfl) (ec (ev1 rfl) en)) rfl rfl (ky _ _ (rfl)) rfl rfl rfl rfl rfl rfl) ?_
 refine zab ?_
 refine zai ?_
 refine zaa 2 rfl ?_
 refine za rfl ((kY (i := 64) rfl qg (ev1 rfl) (qR (ev1 rfl)) (fun _ => by omega) (fun _ => by omega) (fun _ => rfl)).cast (d' := .slf 1 (r).length ((r).flatMap uc8)) (by rw [hre])) ?_
 refine zaa 1 rfl ?_
 refine zab ?_
 refine zai ?_
 refine zaa 1 rfl ?_
 refine za rfl (zak [] [] [] rfl (ev1 rfl) (ec (ev1 rfl) en) rfl rfl (Am r (by omega) hir n h2 hm hn us q h0) rfl rfl rfl rfl rfl rfl) ?_
 refine zaa 4 rfl ?_
 refine za rfl (zas rfl gM (ev1 rfl)) ?_
 refine zaq rfl (gt rfl gm (ev1 rfl) (ev1 rfl) rfl rfl rfl rfl rfl) ?_
 refine zaa 1 rfl ?_
 refine zaq rfl (qN rfl kc (ev1 rfl) (ev1 rfl) rfl) ?_
 refine zab ?_
 refine zai ?_
 refine za rfl (qx rfl kc (ev1 rfl) rfl rfl) ?_
 refine za rfl (qj rfl (ev1 rfl) (ev1 rfl)) ?_
 refine za rfl (qx rfl kc (ev1 rfl) rfl rfl) ?_
 refine za rfl (zak [] [] [] rfl (ev1 rfl) (ec (ev1 rfl) (ec (ev1 rfl) en)) rfl rfl (ky _ _ (rfl)) rfl rfl rfl rfl rfl rfl) ?_
 refine zab ?_
 refine zai ?_
 refine zaa 2 rfl ?_
 refine za rfl (qm rfl qg (ev1 rfl)) ?_
 refine za rfl (qj rfl (ev1 rfl) (ev1 rfl)) ?_
 refine zaa 1 rfl ?_
 refine zah (qd rfl rfl rfl) rfl rfl rfl (qe rfl kr (ev1 rfl) rfl rfl) ?_
 refine zah (qd rfl rfl rfl) rfl rfl rfl (zak [] [] [] rfl (ev1 rfl) (ec (ev2 rfl) en) rfl rfl (yI (⟨bAt r 0, bAt r 1, us, kw 8 b, kw 8 (b.drop 8), v⟩ : SnM)) rfl rfl rfl rfl rfl rfl) ?_
 refine zah (qd rfl rfl rfl) rfl rfl rfl (qj rfl (ev2 rfl) (ev1 rfl)) ?_
 refine za rfl (qF rfl (ev1 rfl) (ev3 rfl id)) ?_
 refine kz rfl (qQ [] [] [] rfl (ev1 rfl) (ec (ev1 rfl) (ec (ev1 rfl) en)) rfl rfl (yc _ _ (by rw [K2 _ (by decide)]; rw [Bool.eq_false_iff]; intro hc; rw [qbi] at hc; exact hbad ⟨by have := hc.1; simp at this; omega, hc.2⟩)) rfl rfl rfl rfl rfl rfl) rfl ?_
 refine gq (qZ [0, 1] [] rfl rfl rfl (WT (⟨bAt r 0, bAt r 1, us, kw 8 b, kw 8 (b.drop 8), v⟩ : SnM) _ _ (by first | decide | assumption)) rfl rfl rfl rfl rfl) ?_
 refine qo (rs2 rfl (vQ kr rfl rfl rfl) (j4 kc rfl rfl rfl)) rfl ?_
 rfl
theorem HN (b : List Int) (hl : b.length ≤ 30000) (hi : isB b) (h16 : 16 ≤ b.length) (v : Vec) (r : List Int) (hv : yk (b.drop 16) = .ok v r) (n : Nat) (h2 : 0 + 2 ≤ r.length) (hm : jV (bAt r 0) (bAt r 1) = true) (hn : bAt r 0 * bAt r 1 = (n : Int)) (us : List TL) (q : Nat) (h0 : jk qy r n [] 2 = some (us, q)) (hq : q = r.length) (hk : gu (⟨bAt r 0, bAt r 1, us, kw 8 b, kw 8 (b.drop 8), v⟩ : SnM) = true) : DFun Tryz.prog 17 [.slf 1 (b).length ((b).flatMap uc8)] [] (.tup [.agg (snL (⟨bAt r 0, bAt r 1, us, kw 8 b, kw 8 (b.drop 8), v⟩ : SnM)), .val (.int .i64 0)]) [] := by
 have hld : (b.drop 16).length = b.length - 16 := qbF
 have hk1 : okL (b.drop 16) := ⟨q0 hi 16, by omega⟩
 obtain ⟨hr64, hre, hrl, hvB, hv9, hrv⟩ := v4 hk1 hv
 have hir : isB r := by rw [hre]; exact q0 (q0 hi 16) 64
 refine qA (N := 57) 0 (by kernel_rfl) Tryz.func17 rfl rfl rfl (by simp only [fr0, qbh, qbj]; exact rfl) rfl fun s0 hs0 => ?_
 refine qP rfl hs0 ?_
 refine zam 2 ?_
 refine zac ?_
 refine zal rfl (zan 0 rfl jZ rfl) ?_
 refine zal rfl (zan 1 rfl gB rfl) ?_
 refine zab ?_
 refine qD (l0 := [_]) rfl rfl rfl rfl rfl hs0 ?_
 refine za rfl (ki rfl en (ec (ev1 rfl) (ec (ev1 rfl) en))) ?_
 refine zab ⟨_, _, _, 2, ev1 rfl, qbE hs0 (by decide), rfl, ?_⟩
 have hs1 : s0.M.length ≤ 2 := qbE hs0 (by decide)
 refine qO rfl hs0 ?_
 refine zad ?_
 refine jf 0 yO rfl rfl (by simp only [qbp, qbq, zaf, zag, List.map]; exact rfl) ?_
 refine zac ?_
 refine zaa 1 rfl ?_
 refine za rfl (zak [] [] [] rfl (ev1 rfl) (ec (ev1 rfl) (ec (ev1 rfl) (ec (ev1 rfl) en))) rfl rfl (yS b (by omega) 0 (by omega)) rfl rfl rfl rfl rfl rfl) ?_
 refine zaa 2 rfl ?_
 refine za rfl (zak [] [] [] rfl (ev1 rfl) (ec (ev1 rfl) (ec (ev1 rfl) en)) rfl rfl (yd (kw 8 b)) rfl rfl rfl rfl rfl rfl) ?_
 refine za rfl (zas rfl yu (ev1 rfl)) ?_
 refine zaq rfl (kQ rfl kC (ev1 rfl) (ev1 rfl) (fun s v h => by cases h <;> exact ⟨rfl, rfl⟩) rfl (by first | decide | exact qbr rfl | simp)) ?_
 refine zab ?_
 refine zai ?_
 refine zaa 1 rfl ?_
 refine za rfl (zak [] [] [] rfl (ev1 rfl) (ec (ev1 rfl) (ec (ev1 rfl) (ec (ev1 rfl) en))) rfl rfl (yS b (by omega) 8 (by omega)) rfl rfl rfl rfl rfl rfl) ?_
 refine zaa 2 rfl ?_
 refine za rfl (zak [] [] [] rfl (ev1 rfl) (ec (ev1 rfl) (ec (ev1 rfl) en)) rfl rfl (yd (kw 8 (b.drop 8))) rfl rfl rfl rfl rfl rfl) ?_
 refine za rfl (zas rfl yg (ev1 rfl)) ?_
 refine zaq rfl (kQ rfl kC (ev1 rfl) (ev1 rfl) (fun s v h => by cases h <;> exact ⟨rfl, rfl⟩) rfl (by first | decide | exact qbr rfl | simp)) ?_
 refine zab ?_
 refine zai ?_
 refine zaa 1 rfl ?_
 refine zab ?_
 refine zai ?_
 refine zaa 1 rfl ?_
 refine za rfl (kY (i := 16) rfl qg (ev1 rfl) (qR (ev1 rfl)) (fun _ => by omega) (fun _ => by omega) (fun _ => rfl)) ?_
 refine zaa 1 rfl ?_
 refine zab ?_
 refine zai ?_
 refine zaa 1 rfl ?_
 refine za rfl (zak [] [] [] rfl (ev1 rfl) (ec (ev1 rfl) en) rfl rfl (vI (b.drop 16) hk1 (by omega) v r hv (by omega)) rfl rfl rfl rfl rfl rfl) ?_
 refine zaa 4 rfl ?_
 refine za rfl (zas rfl yv (ev1 rfl)) ?_
 refine zaq rfl (gt rfl jx (ev1 rfl) (wQ (ev1 rfl) (Wk.vagg _)) rfl rfl rfl rfl rfl) ?_
 refine zaa 1 rfl ?_
 refine zaq rfl (qN rfl kc (ev1 rfl) (ev1 rfl) rfl) ?_
 refine zab ?_
 refine zai ?_
 refine za rfl (qx rfl kc (ev1 rfl) rfl rfl) ?_
 refine za rfl (qj rfl (ev1 rfl) (ev1 rfl)) ?_
 refine za rfl (qx rfl kc (ev1 rfl) rfl rfl) ?_
 refine za rfl (zak [] [] [] rfl (ev1 rfl) (ec (ev1 rfl) (ec (ev1 rfl) en)) rfl rfl (ky _ _ (rfl)) rfl rfl rfl rfl rfl rfl) ?_
 refine zab ?_
 refine zai ?_
 refine zaa 2 rfl ?_
 refine za rfl ((kY (i := 64) rfl qg (ev1 rfl) (qR (ev1 rfl)) (fun _ => by omega) (fun _ => by omega) (fun _ => rfl)).cast (d' := .slf 1 (r).length ((r).flatMap uc8)) (by rw [hre])) ?_
 refine zaa 1 rfl ?_
 refine zab ?_
 refine zai ?_
 refine zaa 1 rfl ?_
 refine za rfl (zak [] [] [] rfl (ev1 rfl) (ec (ev1 rfl) en) rfl rfl (Am r (by omega) hir n h2 hm hn us q h0) rfl rfl rfl rfl rfl rfl) ?_
 refine zaa 4 rfl ?_
 refine za rfl (zas rfl gM (ev1 rfl)) ?_
 refine zaq rfl (gt rfl gm (ev1 rfl) (ev1 rfl) rfl rfl rfl rfl rfl) ?_
 refine zaa 1 rfl ?_
 refine zaq rfl (qN rfl kc (ev1 rfl) (ev1 rfl) rfl) ?_
 refine zab ?_
 refine zai ?_
 refine za rfl (qx rfl kc (ev1 rfl) rfl rfl) ?_
 refine za rfl (qj rfl (ev1 rfl) (ev1 rfl)) ?_
 refine za rfl (qx rfl kc (ev1 rfl) rfl rfl) ?_
 refine za rfl (zak [] [] [] rfl (ev1 rfl) (ec (ev1 rfl) (ec (ev1 rfl) en)) rfl rfl (ky _ _ (rfl)) rfl rfl rfl rfl rfl rfl) ?_
 refine zab ?_
 refine zai ?_
 refine zaa 2 rfl ?_
 refine za rfl (qm rfl qg (ev1 rfl)) ?_
 refine za rfl (qj rfl (ev1 rfl) (ev1 rfl)) ?_
 refine zaa 1 rfl ?_
 refine zah (qd rfl rfl rfl) rfl rfl rfl (qe rfl kr (ev1 rfl) rfl rfl) ?_
 refine zah (qd rfl rfl rfl) rfl rfl rfl (zak [] [] [] rfl (ev1 rfl) (ec (ev2 rfl) en) rfl rfl (yI (⟨bAt r 0, bAt r 1, us, kw 8 b, kw 8 (b.drop 8), v⟩ : SnM)) rfl rfl rfl rfl rfl rfl) ?_
 refine zah (qd rfl rfl rfl) rfl rfl rfl (qj rfl (ev2 rfl) (ev1 rfl)) ?_
 refine za rfl (qF rfl (ev1 rfl) (ev3 rfl id)) ?_
 refine za rfl (zak [] [] [] rfl (ev1 rfl) (ec (ev1 rfl) (ec (ev1 rfl) en)) rfl rfl (ky _ _ (by rw [K2 _ (by decide), hk]; simp; omega)) rfl rfl rfl rfl rfl rfl) ?_
 refine zab ?_
 refine zai ?_
 refine za rfl (qe rfl kr (ev1 rfl) rfl rfl) ?_
 refine zaq rfl (GA rfl kr (ev1 rfl) (ev1 rfl) rfl rfl rfl rfl) ?_
 refine zaq rfl (qN rfl kc (ev1 rfl) (ev1 rfl) rfl) ?_
 refine zab ?_
 refine zau ?_
 refine gq (kU [0, 1] [] rfl rfl (Qd (⟨bAt r 0, bAt r 1, us, kw 8 b, kw 8 (b.drop 8), v⟩ : SnM) _) rfl rfl rfl rfl rfl) ?_
 refine qo (rs2 rfl (vQ kr rfl rfl rfl) (j4 kc rfl rfl rfl)) rfl ?_
 rfl
end Go.Proofs.YtofklkbfkoliiaaGreat
namespace Go.Proofs.YtofklkbfkoliiaaGreat
set_option linter.unusedVariables false
set_option linter.unusedSimpArgs false
open Go.RowKit
attribute [local irreducible] jk
theorem xM {b : List Int} (hi : isB b) (h : 8 ≤ b.length) : b = kO 8 (kw 8 b) ++ b.drop 8 ∧ 0 ≤ kw 8 b ∧ kw 8 b < (256 ^ 8 : Nat) := by
 have e1 := ur hi (w := 8) (by decide) h
 have e2 : tN 8 b = .ok (k6 (b.take 8) 0 : Int) (b.drop 8) := by
  unfold tN tkN
  rw [if_neg (by omega)]
 obtain ⟨g1, g2⟩ := (cdN 110 8).bwd b _ _ hi e2
 rw [← e1] at g1 g2
 exact ⟨g1, g2.1, g2.2⟩
theorem zY {n : Int} (h : 0 ≤ n ∧ n < (256 ^ 8 : Nat)) {rest : List Int} (hr : isB rest) : kw 8 (kO 8 n ++ rest) = n := by
 have hl := kP 8 n
 have e1 := ur (l := kO 8 n ++ rest) (isB_app.2 ⟨wX 8 n, hr⟩) (w := 8) (by decide) (by rw [qbf]; omega)
 have e2 := (cdN 110 8).fwd n rest h
 unfold tkN at e2
 rw [if_neg (by rw [qbf]; omega)] at e2
 have e3 : ((k6 ((kO 8 n ++ rest).take 8) 0 : Nat) : Int) = n := by
  injection e2
 rw [e1, e3]
theorem K4 {v : Vec} : isB (yj v) := by
 unfold yj vX
 intro x hx
 obtain ⟨n, _, h⟩ := List.mem_flatMap.1 hx
 exact wX 8 n x h
theorem yJ (s : SnM) : kG s = kO 8 s.f ++ (kO 8 s.st ++ (yj s.v ++ qT s.w s.h s.ts)) := by
 unfold kG VY
 simp [qbM]
theorem zl {s : SnM} (hr : kR s.w s.h s.ts = true) (hg : vu s.ts) : isB (kG s) := by
 rw [yJ]
 exact isB_app.2 ⟨wX _ _, isB_app.2 ⟨wX _ _, isB_app.2 ⟨K4, XR hr hg⟩⟩⟩
structure RdS (b : List Int) (s : SnM) : Prop where
 ok : gu s = true
 f0 : 0 ≤ s.f
 eq : b = kG s
 v9 : ∀ i, 9 ≤ i → s.v i = 0
theorem Qe {b : List Int} (hl : b.length ≤ 30000) (hi : isB b) (hno : ∀ s, ¬ RdS b s) : DFun Tryz.prog 17 [.slf 1 (b).length ((b).flatMap uc8)] [] (.tup [.agg ([.int .i64 0, .int .i64 0, .slice none 0 0, .int .u64 0, .int .u64 0, .int .u64 0, .int .u64 0, .int .u64 0, .int .u64 0, .int .u64 0, .int .u64 0, .int .u64 0, .int .u64 0, .int .u64 0].map D.val), .val (.int .i64 310)]) [] := by
 by_cases h8 : 8 ≤ b.length
 rotate_left
 ·exact X4 b hl hi (by omega)
 by_cases h16 : 16 ≤ b.length
 rotate_left
 ·exact X5 b hl hi h8 (by omega)
 have hld : (b.drop 16).length = b.length - 16 := qbF
 have hk1 : okL (b.drop 16) := ⟨q0 hi 16, by omega⟩
 cases hv : yk (b.drop 16) with
 | err e =>
  refine X6 b hl hi h16 e ?_ hv
  rcases Er.V (b.drop 16) e hv with h | h <;> subst h <;> decide
 | ok v r =>
  obtain ⟨hr64, hre, hrl, hvB, hv9, hrv⟩ := v4 hk1 hv
  have hir : isB r := by rw [hre]; exact q0 (q0 hi 16) 64
  by_cases hx : Jh r
  ·exact X7 b hl hi h16 v r hv hx
  ·unfold Jh at hx
   obtain ⟨h2, hm, h0⟩ := Classical.not_not.1 hx
   obtain ⟨⟨us, q⟩, h0⟩ := Option.isSome_iff_exists.1 h0
   refine X8 b hl hi h16 v r hv _ h2 hm (KX hm).1 us q h0 fun hb => hno (⟨bAt r 0, bAt r 1, us, kw 8 b, kw 8 (b.drop 8), v⟩ : SnM) ?_
   obtain ⟨hq, hk⟩ := hb
   obtain ⟨g1, g2, g3⟩ := xM hi h8
   obtain ⟨k1, k2, k3⟩ := xM (q0 hi 8) (show 8 ≤ (b.drop 8).length by rw [qbF]; omega)
   refine ⟨hk, g2, ?_, hv9⟩
   have hc := JX (by omega) h0
   rw [hq, List.take_length] at hc
   rw [yJ]
   show b = kO 8 (kw 8 b) ++ (kO 8 (kw 8 (b.drop 8)) ++ (yj v ++ qT (bAt r 0) (bAt r 1) us))
   rw [← hc, ← hrv]
   have e16 : b.drop 16 = (b.drop 8).drop 8 := by rw [List.drop_drop]
   rw [e16, ← k1]
   exact g1
theorem wt {s : SnM} (hk : gu s = true) (hf : 0 ≤ s.f) (hi : isB (kG s)) (hv9 : ∀ i, 9 ≤ i → s.v i = 0) : DFun Tryz.prog 17 [.slf 1 ((kG s)).length (((kG s)).flatMap uc8)] [] (.tup [.agg (snL s), .val (.int .i64 0)]) [] := by
 obtain ⟨hr, hfs, hst, hvB⟩ := snOk_iff.1 hk
 obtain ⟨q1, q2, q3, q4⟩ := gD hr
 have hcv : isB (qT s.w s.h s.ts) := by
  have h1 := hi
  rw [yJ] at h1
  exact (isB_app.1 (isB_app.1 (isB_app.1 h1).2).2).2
 obtain ⟨w, h, ts, f, st, v⟩ := s
 dsimp only at *
 have hb1 : (kO 8 f).length = 8 := kP 8 f
 have hb2 : (kO 8 st).length = 8 := kP 8 st
 have e0 := yJ ⟨w, h, ts, f, st, v⟩
 dsimp only at e0
 have e8 : (kG ⟨w, h, ts, f, st, v⟩).drop 8 = kO 8 st ++ (yj v ++ qT w h ts) := by rw [e0]; exact List.drop_left' hb1
 have e16 : (kG ⟨w, h, ts, f, st, v⟩).drop 16 = yj v ++ qT w h ts := by
  rw [show 16 = 8 + 8 from rfl, ← List.drop_drop, e8]
  exact List.drop_left' hb2
 have n1 : kw 8 (kG ⟨w, h, ts, f, st, v⟩) = f := by
  rw [e0]
  exact zY ⟨hf, by rw [e8N]; omega⟩ (isB_app.2 ⟨wX _ _, isB_app.2 ⟨K4, hcv⟩⟩)
 have n2 : kw 8 ((kG ⟨w, h, ts, f, st, v⟩).drop 8) = st := by
  rw [e8]
  exact zY ⟨by omega, by rw [e8N]; omega⟩ (isB_app.2 ⟨K4, hcv⟩)
 have hv : yk ((kG ⟨w, h, ts, f, st, v⟩).drop 16) = .ok v (qT w h ts) := by
  rw [e16]
  exact (XF 110 290).fwd v _ ⟨hvB, hv9⟩
 obtain ⟨g1, g2, g3, _⟩ := wq hr
 have hbk := JW qy w h ts []
 have en : qT w h ts ++ [] = qT w h ts := qbV _
 rw [show (w :: h :: qM qy [] ts) ++ [] = qT w h ts ++ [] from rfl, en] at hbk
 have hy := HN (kG ⟨w, h, ts, f, st, v⟩) (by omega) hi (by omega) v (qT w h ts) hv ts.length (by omega) g3 g1 ts _ hbk rfl (by rw [n1, n2]; exact hk)
 rw [n1, n2] at hy
 exact hy
end Go.Proofs.YtofklkbfkoliiaaGreat
namespace Go.Proofs.YtofklkbfkoliiaaGreat
set_option linter.unusedVariables false
set_option linter.unusedSimpArgs false
open Go.RowKit
attribute [local irreducible] jk jG kB kG vo jh yM yf wy gu kw tkN
def wS : SnM := ⟨1, 1, [zT], 3, 5, z9⟩
def WU : List Int := qbs 300 0
def wp0 : PcM := ⟨1, 0, 2, qbs 256 0⟩
def wp1 : PcM := ⟨1, 1, 2, qbs 44 0⟩
def wx : PcM := ⟨2, 0, 3, qbs 256 0⟩
def wq1 : PiM := ⟨1, 2, [[], qbs 44 0]⟩
def wq2 : PiM := ⟨1, 2, [qbs 256 0, qbs 44 0]⟩
def wq3 : PiM := ⟨2, 3, [qbs 256 0, [], []]⟩
theorem qaV : vo 1 WU = [wp0, wp1] := by kernel_rfl
theorem HO : kB [wp1, wp1] (zPi, 0) = (wq1, 1) := by kernel_rfl
theorem HP : jG wq1 wp0 = (0, wq2) := by kernel_rfl
theorem HQ : jG wq2 wx = (0, wq3) := by kernel_rfl
theorem HR : jG wq3 wp0 = (241, wq3) := by kernel_rfl
theorem wk_q1 : jh wq1 = true := by kernel_rfl
theorem wk_q2 : jh wq2 = true := by kernel_rfl
theorem wk_q3 : jh wq3 = true := by kernel_rfl
theorem wkn1 : yM wq1 = (0, true) := by kernel_rfl
theorem wkn3 : yM wq3 = (1, true) := by kernel_rfl
theorem wk_w1 : yf wq1 = false := by kernel_rfl
theorem wk_w2 : yf wq2 = true := by kernel_rfl
theorem X9 : gu wS = true := by kernel_rfl
theorem Q2 : (kG wS).length = 83 := by kernel_rfl
theorem HS : wy wS wS = true := by kernel_rfl
theorem qaW : vu wS.ts := by
 intro t ht c hc
 rw [show wS.ts = [zT] from rfl] at ht
 obtain rfl := List.mem_singleton.1 ht
 have : c = zC4 := List.eq_of_mem_replicate (show c ∈ qbs 64 zC4 from hc)
 subst this
 unfold C4.rng
 decide
theorem Za : isB (kG wS) := zl (snOk_iff.1 X9).1 qaW
theorem Zb : ∀ s, ¬ RdS ((kG wS).take 82) s := by
 intro s h
 have h1 := (snOk_iff.1 h.ok).1
 have h2 := gD h1
 have h3 := congrArg List.length h.eq
 rw [qbD, Q2] at h3
 omega
theorem HT : DFun Tryz.prog 19 [.val (.int .u64 1), .slf 1 (WU).length ((WU).flatMap uc8)] [] (.tup [.slm 4 [wp0, wp1].length ([wp0, wp1].flatMap pcD), .val (.int .i64 0)]) [] := by
 have h := X3 1 WU rfl (by decide) (by decide)
 rw [qaV] at h
 exact h
theorem Zc : DFun Tryz.prog 37 [.agg (piD zPi), .slm 4 [wp1, wp1].length ([wp1, wp1].flatMap pcD)] [] (.tup [.agg (piD wq1), .val (.int .i64 1), .val (.int .i64 0)]) [] := by
 have h := VV zPi Q1 [wp1, wp1] (by decide)
 rw [HO] at h
 exact h
theorem VZ {p q : PiM} {x : PcM} (hp : jh p = true) (h : jG p x = (0, q)) : DFun Tryz.prog 30 [.agg (piD p), .agg (pcD x)] [] (.tup [.agg (piD q), .val (.int .i64 0)]) [] := by
 have h1 := HI p (by have := (vl hp).1; omega) (fun b hb => by have := (vl hp).2 b hb; omega) hp x (by rw [h])
 rw [h] at h1
 exact h1
theorem HU {p q : PiM} {x : PcM} {e : Int} (hp : jh p = true) (he : e ≠ 0) (h : jG p x = (e, q)) : DFun Tryz.prog 30 [.agg (piD p), .agg (pcD x)] [] (.tup [.agg (piD zPi), .val (.int .i64 e)]) [] :=
 HH p (by have := (vl hp).1; omega) (fun b hb => by have := (vl hp).2 b hb; omega) hp x e he (by rw [h])
theorem J2 : DFun Tryz.prog 7 [] [] (.val (.bool true)) [] := by
 refine zap (N := 180) 0 (by kernel_rfl) Tryz.func7 rfl rfl rfl (by simp only [fr0, qbh, qbj]; exact rfl) rfl fun s0 hs0 => ?_
 refine zai ?_
 refine zaa 1 rfl ?_
 refine zab ?_
 refine zad ?_
 refine zam 2 ?_
 refine zac ?_
 refine zal rfl (QJ 0 (1) (.int .u8 0) rfl jo kN (by kernel_rfl) (by decide) (ev1 rfl) (ev1 rfl) (fun _ => rfl) (fun _ => rfl) rfl (fun _ => by decide)) ?_
 refine za rfl (gc (ps := [(0, .const (.int .i64 1)), (1, .const (.int .i64 1)), (2, .tmp 26)]) rfl Wu uv (ec (ev1 rfl) (ec (ev1 rfl) (ec (ev1 rfl) en))) rfl rfl rfl) ?_
 refine za rfl (gc (ps := [(0, .tmp 27), (1, .const (.int .u64 3)), (2, .const (.int .u64 5))]) rfl GV jZ (ec (ev1 rfl) (ec (ev1 rfl) (ec (ev1 rfl) en))) rfl rfl rfl) ?_
 refine zal rfl (zan 1 rfl jZ rfl) ?_
 refine zaq rfl (ka rfl kr (ev1 rfl) (ev1 rfl) rfl rfl rfl rfl) ?_
 refine zab ?_
 refine zad ?_
 refine QL 1 2 rfl rfl rfl (by simp only [qbp, qbq, zaf, zag]; exact rfl) ?_
 refine yR 1 (show _ = .mix 29 (snL wS) from by kernel_rfl) rfl (by simp only [qbp, qbq, zaf, zag]; exact rfl) ?_
 refine zac ?_
 refine za rfl (qe rfl kr (ev1 rfl) rfl rfl) ?_
 refine za rfl (zak [] [] [] rfl (ev1 rfl) (ec (ev1 rfl) en) rfl rfl (vZ wS X9 (by decide)) rfl rfl rfl rfl rfl rfl) ?_
 refine zaa 5 rfl ?_
 refine zab ?_
 refine zad ?_
 refine zam 1 ?_
 refine zac ?_
 refine zaa 1 rfl ?_
 refine za rfl (zak [] [] [] rfl (ev1 rfl) (ec (ev1 rfl) en) rfl rfl (wt X9 (by decide) Za (fun _ _ => rfl)) rfl rfl rfl rfl rfl rfl) ?_
 refine zaa 3 rfl ?_
 refine zal rfl (zan 2 rfl jZ rfl) ?_
 refine zaq rfl (ka rfl kr (ev1 rfl) (ev1 rfl) rfl rfl rfl rfl) ?_
 refine zaa 1 rfl ?_
 refine zab ?_
 refine zai ?_
 refine za rfl ((Vq (300) (.int .u8 0) rfl qg zr5 (ev1 rfl) (ev1 rfl) (fun _ => rfl) (fun _ => rfl) (fun _ => by decide)).cast (d' := .slf 1 (WU).length ((WU).flatMap uc8)) (by kernel_rfl)) ?_
 refine za rfl (zak [] [] [] rfl (ev1 rfl) (ec (ev1 rfl) (ec (ev1 rfl) en)) rfl rfl (HT) rfl rfl rfl rfl rfl rfl) ?_
 refine zaa 5 rfl ?_
 refine zab ?_
 refine zad ?_
 refine zai ?_
 refine zaa 1 rfl ?_
 refine za rfl (qV rfl (ev1 rfl) (ev1 rfl)) ?_
 refine zaa 1 rfl ?_
 refine zah (qa rfl rfl rfl) rfl rfl rfl (zaj (.inl rfl) (ev1 rfl)) ?_
 refine zah (qa rfl rfl rfl) rfl rfl rfl (qV rfl (ev2 rfl) (ev1 rfl)) ?_
 refine za rfl (qK rfl (ev1 rfl) (ev3 rfl id)) ?_
 refine zaa 1 rfl ?_
 refine zah (qa rfl rfl rfl) rfl rfl rfl (zaj (.inl rfl) (ev1 rfl)) ?_
 refine zah (qa rfl rfl rfl) rfl rfl rfl (qV rfl (ev2 rfl) (ev1 rfl)) ?_
 refine za rfl (qK rfl (ev1 rfl) (ev3 rfl id)) ?_
 refine zaa 1 rfl ?_
 refine zah (qa rfl rfl rfl) rfl rfl rfl (zaj (.inl rfl) (ev1 rfl)) ?_
 refine zah (qa rfl rfl rfl) rfl rfl rfl (qm rfl qg (ev2 rfl)) ?_
 refine zah (qa rfl rfl rfl) rfl rfl rfl (qV rfl (ev2 rfl) (ev1 rfl)) ?_
 refine za rfl (qK rfl (ev1 rfl) (ev3 rfl id)) ?_
 refine zaa 1 rfl ?_
 refine zah (qa rfl rfl rfl) rfl rfl rfl (zaj (.inl rfl) (ev1 rfl)) ?_
 refine zah (qa rfl rfl rfl) rfl rfl rfl (gG rfl Ji (ev2 rfl)) ?_
 refine zah (qa rfl rfl rfl) rfl rfl rfl (qV rfl (ev2 rfl) (ev1 rfl)) ?_
 refine za rfl (qK rfl (ev1 rfl) (ev3 rfl id)) ?_
 refine zaa 1 rfl ?_
 refine zah (qa rfl rfl rfl) rfl rfl rfl (qe rfl kr (ev1 rfl) rfl rfl) ?_
 refine zah (qa rfl rfl rfl) rfl rfl rfl (qe rfl kr (ev1 rfl) rfl rfl) ?_
 refine zah (qa rfl rfl rfl) rfl rfl rfl (zak [] [] [] rfl (ev1 rfl) (ec (ev2 rfl) (ec (ev2 rfl) en)) rfl rfl (yC wS wS (by decide)) rfl rfl rfl rfl rfl rfl) ?_
 refine zah (qa rfl rfl rfl) rfl rfl rfl (ku rfl (ev2 rfl)) ?_
 refine za rfl (qK rfl (ev1 rfl) (ev3 rfl id)) ?_
 refine zab ?_
 refine qf rfl (by rw [Q2, HS]; rfl) ?_
 refine zao ?_
 refine zad ?_
 refine zam 1 ?_
 refine qh [([], []), ([], []), ([], []), ([], []), ([], []), ([], []), ([], []), ([], []), ([], []), ([], []), ([], []), ([], []), ([], []), ([3], [3]), ([3], [3]), ([], []), ([], [])] qJ (by kernel_rfl) ?_
 refine zae rfl rfl (kH rfl fl61 uw) ?_
 refine zae rfl rfl (zaj (.inl rfl) (ev1 rfl)) ?_
 refine zae rfl rfl (xt (1) (by decide) rfl Ji (ev1 rfl) (ev1 rfl) (fun _ => rfl) (by decide) (fun _ => rfl)) ?_
 refine zae rfl rfl (xu rfl ye (ev1 rfl) rfl rfl) ?_
 refine zae rfl rfl (zaj (.inl rfl) (ev1 rfl)) ?_
 refine zae rfl rfl (xt (1) (by decide) rfl Ji (ev1 rfl) (ev1 rfl) (fun _ => rfl) (by decide) (fun _ => rfl)) ?_
 refine zae rfl rfl (xu rfl ye (ev1 rfl) rfl rfl) ?_
 refine zae rfl rfl (QG (ps := [(0, .tmp 74), (1, .tmp 77)]) rfl Ji GQ rfl (ec (ev1 rfl) (ec (ev1 rfl) en)) rfl rfl rfl (by rfl) rfl (by decide) (by decide)) ?_
 refine zae rfl rfl (zak [] [] [] rfl (ev1 rfl) (ec (wQ (ev1 rfl) GT) (ec (ev1 rfl) en)) rfl rfl (Zc) rfl rfl rfl rfl rfl rfl) ?_
 refine zae rfl rfl (zaj (.inl rfl) (ev1 rfl)) ?_
 refine zae rfl rfl (jy rfl (ev1 rfl) rfl) ?_
 refine zae rfl rfl (jy rfl (ev1 rfl) rfl) ?_
 refine zae rfl rfl (jy rfl (ev1 rfl) rfl) ?_
 refine gg rfl rfl (zan 3 rfl uw rfl) rfl (by simp only [upd, zaf, zag]; exact rfl) ?_
 refine jq rfl rfl (ka rfl jp (ev1 rfl) (ev1 rfl) rfl rfl rfl rfl) rfl (by simp only [upd, zaf, zag]; exact rfl) ?_
 refine zae rfl rfl (zaj (.inr rfl) (ev1 rfl)) ?_
 refine zae rfl rfl (zaj (.inr rfl) (ev1 rfl)) ?_
 refine ql ?_
 refine zai ?_
 refine za rfl (qe rfl jp (ev1 rfl) rfl rfl) ?_
 refine za rfl (zak [] [] [] rfl (ev1 rfl) (ec (ev1 rfl) en) rfl rfl (X1 wq1 (by decide)) rfl rfl rfl rfl rfl rfl) ?_
 refine zaa 5 rfl ?_
 refine zab ?_
 refine zai ?_
 refine za rfl (qe rfl jp (ev1 rfl) rfl rfl) ?_
 refine za rfl (zak [] [] [] rfl (ev1 rfl) (ec (ev1 rfl) en) rfl rfl (HM wq1 (by decide) wk_w1) rfl rfl rfl rfl rfl rfl) ?_
 refine zaa 5 rfl ?_
 refine zab ?_
 refine zad ?_
 refine qh [([3], []), ([], []), ([], []), ([], []), ([], []), ([], []), ([], []), ([], []), ([3], [3]), ([], [])] qJ (by kernel_rfl) ?_
 refine zae rfl rfl (qe rfl jp (ev1 rfl) rfl rfl) ?_
 refine zae rfl rfl (zaj (.inl rfl) (ev1 rfl)) ?_
 refine zae rfl rfl (xt (0) (by decide) rfl Ji (ev1 rfl) (ev1 rfl) (fun _ => rfl) (by decide) (fun _ => rfl)) ?_
 refine zae rfl rfl (xu rfl ye (ev1 rfl) rfl rfl) ?_
 refine zae rfl rfl (zak [] [] [] rfl (ev1 rfl) (ec (ev1 rfl) (ec (ev1 rfl) en)) rfl rfl (VZ wk_q1 HP) rfl rfl rfl rfl rfl rfl) ?_
 refine zae rfl rfl (zaj (.inl rfl) (ev1 rfl)) ?_
 refine zae rfl rfl (jy rfl (ev1 rfl) rfl) ?_
 refine zae rfl rfl (jy rfl (ev1 rfl) rfl) ?_
 refine jq rfl rfl (GA rfl jp (ev1 rfl) (ev1 rfl) rfl rfl rfl rfl) rfl (by simp only [upd, zaf, zag]; exact rfl) ?_
 refine zae rfl rfl (zaj (.inr rfl) (ev1 rfl)) ?_
 refine ql ?_
 refine zai ?_
 refine za rfl (qe rfl jp (ev1 rfl) rfl rfl) ?_
 refine za rfl (zak [] [] [] rfl (ev1 rfl) (ec (ev1 rfl) en) rfl rfl (VW wq2 (by decide) wk_w2 (by decide)) rfl rfl rfl rfl rfl rfl) ?_
 refine zaa 5 rfl ?_
 refine zab ?_
 refine zad ?_
 have hl83 := Q2
 refine zam 1 ?_
 refine zac ?_
 refine zaa 1 rfl ?_
 refine za rfl (gb (j := 82) rfl qg (ev1 rfl) (qR (ev1 rfl)) (fun _ => by omega) (fun _ => by omega) (fun _ => rfl)) ?_
 refine za rfl (zak [] [] [] rfl (ev1 rfl) (ec (ev1 rfl) en) rfl rfl ((Qe (by rw [qbD]; omega) (yb Za 82) Zb)) rfl rfl rfl rfl rfl rfl) ?_
 refine zaa 3 rfl ?_
 refine zal rfl (zan 4 rfl jZ rfl) ?_
 refine zaq rfl (ka rfl kr (ev1 rfl) (ev1 rfl) rfl rfl rfl rfl) ?_
 refine zaa 1 rfl ?_
 refine zab ?_
 refine zad ?_
 refine zam 1 ?_
 refine qh [([3], []), ([], []), ([], []), ([], []), ([], []), ([], []), ([], []), ([5], [5]), ([5], [5]), ([], [])] qJ (by kernel_rfl) ?_
 refine zae rfl rfl (qe rfl jp (ev1 rfl) rfl rfl) ?_
 refine zae rfl rfl (Vq (256) (.int .u8 0) rfl qg zr5 (ev1 rfl) (ev1 rfl) (fun _ => rfl) (fun _ => rfl) (fun _ => by decide)) ?_
 refine zae rfl rfl (gc (ps := [(0, .const (.int .u64 2)), (2, .const (.int .i64 3)), (3, .tmp 114)]) rfl fl53 GQ (ec (ev1 rfl) (ec (ev1 rfl) (ec (ev1 rfl) en))) rfl rfl rfl) ?_
 refine zae rfl rfl (zak [] [] [] rfl (ev1 rfl) (ec (ev1 rfl) (ec (ev1 rfl) en)) rfl rfl (VZ wk_q2 HQ) rfl rfl rfl rfl rfl rfl) ?_
 refine zae rfl rfl (zaj (.inl rfl) (ev1 rfl)) ?_
 refine zae rfl rfl (jy rfl (ev1 rfl) rfl) ?_
 refine zae rfl rfl (jy rfl (ev1 rfl) rfl) ?_
 refine gg rfl rfl (zan 5 rfl uw rfl) rfl (by simp only [upd, zaf, zag]; exact rfl) ?_
 refine jq rfl rfl (ka rfl jp (ev1 rfl) (ev1 rfl) rfl rfl rfl rfl) rfl (by simp only [upd, zaf, zag]; exact rfl) ?_
 refine zae rfl rfl (zaj (.inr rfl) (ev1 rfl)) ?_
 refine ql ?_
 refine zai ?_
 refine za rfl (qe rfl jp (ev1 rfl) rfl rfl) ?_
 refine za rfl (zak [] [] [] rfl (ev1 rfl) (ec (ev1 rfl) en) rfl rfl (X1 wq3 (by decide)) rfl rfl rfl rfl rfl rfl) ?_
 refine zaa 5 rfl ?_
 refine zab ?_
 refine zad ?_
 refine zam 1 ?_
 refine qh [([5], []), ([], []), ([], []), ([], []), ([], []), ([], []), ([], []), ([], []), ([6], [6]), ([6], [6]), ([], [])] qJ (by kernel_rfl) ?_
 refine zae rfl rfl (qe rfl jp (ev1 rfl) rfl rfl) ?_
 refine zae rfl rfl (zaj (.inl rfl) (ev1 rfl)) ?_
 refine zae rfl rfl (xt (0) (by decide) rfl Ji (ev1 rfl) (ev1 rfl) (fun _ => rfl) (by decide) (fun _ => rfl)) ?_
 refine zae rfl rfl (xu rfl ye (ev1 rfl) rfl rfl) ?_
 refine zae rfl rfl (zak [] [] [] rfl (ev1 rfl) (ec (ev1 rfl) (ec (ev1 rfl) en)) rfl rfl (HU wk_q3 (by decide) HR) rfl rfl rfl rfl rfl rfl) ?_
 refine zae rfl rfl (zaj (.inl rfl) (ev1 rfl)) ?_
 refine zae rfl rfl (jy rfl (ev1 rfl) rfl) ?_
 refine zae rfl rfl (jy rfl (ev1 rfl) rfl) ?_
 refine gg rfl rfl (zan 6 rfl uw rfl) rfl (by simp only [upd, zaf, zag]; exact rfl) ?_
 refine jq rfl rfl (ka rfl jp (ev1 rfl) (ev1 rfl) rfl rfl rfl rfl) rfl (by simp only [upd, zaf, zag]; exact rfl) ?_
 refine zae rfl rfl (zaj (.inr rfl) (ev1 rfl)) ?_
 refine ql ?_
 refine zai ?_
 refine zaa 1 rfl ?_
 refine za rfl (qj rfl (ev1 rfl) (ev1 rfl)) ?_
 refine zaa 1 rfl ?_
 refine zah (qd rfl rfl rfl) rfl rfl rfl (zaj (.inl rfl) (ev1 rfl)) ?_
 refine zah (qd rfl rfl rfl) rfl rfl rfl (qj rfl (ev2 rfl) (ev1 rfl)) ?_
 refine za rfl (qF rfl (ev1 rfl) (ev3 rfl id)) ?_
 refine zaa 1 rfl ?_
 refine zah (qd rfl rfl rfl) rfl rfl rfl (zaj (.inl rfl) (ev1 rfl)) ?_
 refine zah (qd rfl rfl rfl) rfl rfl rfl (qj rfl (ev2 rfl) (ev1 rfl)) ?_
 refine za rfl (qF rfl (ev1 rfl) (ev3 rfl id)) ?_
 refine zaa 1 rfl ?_
 refine zah (qd rfl rfl rfl) rfl rfl rfl (zaj (.inl rfl) (ev1 rfl)) ?_
 refine zah (qd rfl rfl rfl) rfl rfl rfl (qj rfl (ev2 rfl) (ev1 rfl)) ?_
 refine za rfl (qF rfl (ev1 rfl) (ev3 rfl id)) ?_
 refine zaa 1 rfl ?_
 refine zah (qd rfl rfl rfl) rfl rfl rfl (zaj (.inl rfl) (ev1 rfl)) ?_
 refine zah (qd rfl rfl rfl) rfl rfl rfl (qj rfl (ev2 rfl) (ev1 rfl)) ?_
 refine za rfl (qF rfl (ev1 rfl) (ev3 rfl id)) ?_
 refine zaa 1 rfl ?_
 refine zah (qd rfl rfl rfl) rfl rfl rfl (zaj (.inl rfl) (ev1 rfl)) ?_
 refine za rfl (qF rfl (ev1 rfl) (ev3 rfl id)) ?_
 refine zaa 1 rfl ?_
 refine zah (qd rfl rfl rfl) rfl rfl rfl (zaj (.inl rfl) (ev1 rfl)) ?_
 refine zah (qd rfl rfl rfl) rfl rfl rfl (ku rfl (ev2 rfl)) ?_
 refine za rfl (qF rfl (ev1 rfl) (ev3 rfl id)) ?_
 refine zaa 1 rfl ?_
 refine zah (qd rfl rfl rfl) rfl rfl rfl (zaj (.inl rfl) (ev1 rfl)) ?_
 refine za rfl (qF rfl (ev1 rfl) (ev3 rfl id)) ?_
 refine zaa 1 rfl ?_
 refine zah (qd rfl rfl rfl) rfl rfl rfl (zaj (.inl rfl) (ev1 rfl)) ?_
 refine zah (qd rfl rfl rfl) rfl rfl rfl (qm rfl qg (ev2 rfl)) ?_
 refine zah (qd rfl rfl rfl) rfl rfl rfl (qj rfl (ev2 rfl) (ev1 rfl)) ?_
 refine za rfl (qF rfl (ev1 rfl) (ev3 rfl id)) ?_
 refine zaa 1 rfl ?_
 refine zah (qd rfl rfl rfl) rfl rfl rfl (zaj (.inl rfl) (ev1 rfl)) ?_
 refine zah (qd rfl rfl rfl) rfl rfl rfl (qj rfl (ev2 rfl) (ev1 rfl)) ?_
 refine za rfl (qF rfl (ev1 rfl) (ev3 rfl id)) ?_
 refine zaa 1 rfl ?_
 refine zah (qd rfl rfl rfl) rfl rfl rfl (zaj (.inl rfl) (ev1 rfl)) ?_
 refine zah (qd rfl rfl rfl) rfl rfl rfl (qj rfl (ev2 rfl) (ev1 rfl)) ?_
 refine za rfl (qF rfl (ev1 rfl) (ev3 rfl id)) ?_
 refine zaa 1 rfl ?_
 refine zah (qd rfl rfl rfl) rfl rfl rfl (zaj (.inl rfl) (ev1 rfl)) ?_
 refine za rfl (qF rfl (ev1 rfl) (ev3 rfl id)) ?_
 refine zaa 1 rfl ?_
 refine zah (qd rfl rfl rfl) rfl rfl rfl (zaj (.inl rfl) (ev1 rfl)) ?_
 refine zah (qd rfl rfl rfl) rfl rfl rfl (qj rfl (ev2 rfl) (ev1 rfl)) ?_
 refine za rfl (qF rfl (ev1 rfl) (ev3 rfl id)) ?_
 refine zaa 1 rfl ?_
 refine zab ?_
 refine zau ?_
 refine qo (rs1 rfl (qB rfl)) rfl ?_
 rw [wkn1, wkn3]
 rfl
end Go.Proofs.YtofklkbfkoliiaaGreat
namespace Go.Proofs.YtofklkbfkoliiaaGreat
set_option linter.unusedVariables false
set_option linter.unusedSimpArgs false
open Go.RowKit
attribute [local irreducible] jk jG kB kG vo jh yM yf wy gu kw tkN kR
def zSn : SnM := ⟨0, 0, [], 0, 0, z9⟩
theorem qaX : Wk (.tup [.agg ([.int .i64 0, .int .i64 0, .slice none 0 0, .int .u64 0, .int .u64 0, .int .u64 0, .int .u64 0, .int .u64 0, .int .u64 0, .int .u64 0, .int .u64 0, .int .u64 0, .int .u64 0, .int .u64 0].map D.val), .val (.int .i64 310)]) (.tup [.agg (snL zSn), .val (.int .i64 310)]) := Wk.tup (.cons (Wk.agg (.cons (.refl _) (.cons (.refl _) (.cons (Wk.slf0 256) (WkL.refl _))))) (.cons (.refl _) .nil))
theorem K5 {b : List Int} (hl : b.length ≤ 30000) (hi : isB b) : ∃ (s : SnM) (e : Int), DFun Tryz.prog 17 [.slf 1 (b).length ((b).flatMap uc8)] [] (.tup [.agg (snL s), .val (.int .i64 e)]) [] ∧ ((e = 0 ∧ RdS b s) ∨ (e = 310 ∧ s = zSn ∧ ∀ t, ¬ RdS b t)) := by
 by_cases h : ∃ s, RdS b s
 ·obtain ⟨s, h⟩ := h
  have h1 := wt h.ok h.f0 (h.eq ▸ hi) h.v9
  rw [← h.eq] at h1
  exact ⟨s, 0, h1, .inl ⟨rfl, h⟩⟩
 ·have hno : ∀ t, ¬ RdS b t := fun t ht => h ⟨t, ht⟩
  exact ⟨zSn, 310, (Qe hl hi hno).wk qaX, .inr ⟨rfl, rfl, hno⟩⟩
def kx (s : SnM) : SnM := ⟨s.w, s.h, s.ts.take 17, s.f, s.st, s.v⟩
theorem yU (s : SnM) : DFun Tryz.prog 8 [.agg (snL s)] [] (.agg (snL (kx s))) [] := by
 refine zap (N := 16) 0 (by kernel_rfl) Tryz.func8 rfl rfl rfl (by simp only [fr0, qbh, qbj]; exact rfl) rfl fun s0 hs0 => ?_
 refine zad ?_
 refine zam 2 ?_
 refine zac ?_
 refine zal rfl (qp 0 rfl (ev1 rfl) rfl) ?_
 refine zal rfl (zan 1 rfl jZ rfl) ?_
 refine zab ?_
 refine zai ?_
 refine za rfl (zas rfl gM (ev1 rfl)) ?_
 refine za rfl (zas rfl jR (ev1 rfl)) ?_
 refine za rfl (zat rfl vS (ev1 rfl) rfl rfl) ?_
 refine za rfl (zas rfl gM (ev1 rfl)) ?_
 refine za rfl (zas rfl jR (ev1 rfl)) ?_
 refine za rfl (zat rfl vS (ev1 rfl) rfl rfl) ?_
 refine za rfl (qm rfl jo (ev1 rfl)) ?_
 refine za rfl (vh rfl (ev1 rfl) (ev1 rfl)) ?_
 refine za rfl (gb (j := min s.ts.length 17) rfl jo (ev1 rfl) (qR (ev1 rfl)) (fun _ => by omega) (fun _ => by omega) qb) ?_
 refine za rfl (zak [] [] [] rfl (ev1 rfl) (ec (ev1 rfl) en) rfl rfl (Xd (s.ts.take (min s.ts.length 17)) (by rw [qbD]; omega)) rfl rfl rfl rfl rfl rfl) ?_
 refine za rfl (zas rfl gM (ev1 rfl)) ?_
 refine za rfl (zas rfl jR (ev1 rfl)) ?_
 refine zaq rfl (kQ rfl vS (ev1 rfl) (ev1 rfl) (fun s v h => by cases h <;> exact ⟨rfl, rfl⟩) rfl (by first | decide | exact qbr rfl | simp)) ?_
 refine zab ?_
 refine zai ?_
 refine za rfl (qe rfl kr (ev1 rfl) rfl rfl) ?_
 refine zaq rfl (ka rfl kr (ev1 rfl) (ev1 rfl) rfl rfl rfl rfl) ?_
 refine zab ?_
 refine zau ?_
 refine qo (rs1 rfl (vQ kr rfl rfl rfl)) rfl ?_
 unfold kx snL
 rw [uY]
theorem Zd (v : Vec) : eqV v v = true := by
 unfold eqV
 simp
theorem ju (s : SnM) : wy s s = true := by
 unfold wy
 rw [Zd]
 simp
end Go.Proofs.YtofklkbfkoliiaaGreat
namespace Go.Proofs.YtofklkbfkoliiaaGreat
set_option linter.unusedVariables false
set_option linter.unusedSimpArgs false
open Go.RowKit
open Go.ChangeShapes Go.WideShapes Go.ChangeAt Go.Joins Go.Deep
theorem Jj {v : Value} (h : (Prim.int .i64).is v) : ∃ a : Int, (-9223372036854775808 ≤ a ∧ a ≤ 9223372036854775807) ∧ v = .int .i64 a := by
 obtain ⟨x, rfl, w⟩ := h
 exact ⟨x, by simpa [Lit.wf, IntKind.min, IntKind.max, IntKind.signed, IntKind.bits] using w, rfl⟩
theorem uD {v : Value} (h : (Prim.int .u64).is v) : ∃ a : Int, (0 ≤ a ∧ a ≤ 18446744073709551615) ∧ v = .int .u64 a := by
 obtain ⟨x, rfl, w⟩ := h
 exact ⟨x, by simpa [Lit.wf, IntKind.min, IntKind.max, IntKind.signed, IntKind.bits] using w, rfl⟩
theorem xN : ∀ (a b : List Prim) (cs : List Value), jJ (a ++ b) cs → ∃ c d, cs = c ++ d ∧ jJ a c ∧ jJ b d
 | [], _, cs, h => ⟨[], cs, rfl, trivial, h⟩
 | _ :: _, _, [], h => by cases h
 | p :: a, b, v :: cs, h => by
  obtain ⟨h1, h2⟩ := h
  obtain ⟨c, d, rfl, h3, h4⟩ := xN a b cs h2
  exact ⟨v :: c, d, rfl, ⟨h1, h3⟩, h4⟩
theorem kW {p : Prim} {ps : List Prim} {cs : List Value} (h : jJ (p :: ps) cs) : ∃ v r, cs = v :: r ∧ p.is v ∧ jJ ps r := by
 cases cs with
 | nil => cases h
 | cons v r => exact ⟨v, r, rfl, h.1, h.2⟩
theorem zm {cs : List Value} (h : jJ [] cs) : cs = [] := by
 cases cs with
 | nil => rfl
 | cons v r => cases h
theorem Ze : ∀ cs, jJ [.int .i64] cs → ∃ a : Int, (-9223372036854775808 ≤ a ∧ a ≤ 9223372036854775807) ∧ cs = [.int .i64 a]
 | [c0], h => by
  obtain ⟨h0, _⟩ := h
  obtain ⟨a, w, rfl⟩ := Jj h0
  exact ⟨a, w, rfl⟩
 | [], h => by cases h
 | _ :: _ :: _, h => by obtain ⟨_, h⟩ := h; cases h
theorem xO {v : Value} (h : (Prim.int .u8).is v) : ∃ a : Int, (0 ≤ a ∧ a ≤ 255) ∧ v = .int .u8 a := by
 obtain ⟨x, rfl, w⟩ := h
 exact ⟨x, by simpa [Lit.wf, IntKind.min, IntKind.max, IntKind.signed, IntKind.bits] using w, rfl⟩
theorem HV (cs : List Value) (h : jJ [.int .u8, .int .u8, .int .u8, .int .u8] cs) : ∃ a : C4, a.rng ∧ cs = c4 a := by
 obtain ⟨x0, r, rfl, h0, h⟩ := kW h
 obtain ⟨x1, r, rfl, h1, h⟩ := kW h
 obtain ⟨x2, r, rfl, h2, h⟩ := kW h
 obtain ⟨x3, r, rfl, h3, h⟩ := kW h
 obtain rfl := zm h
 obtain ⟨a0, w0, rfl⟩ := xO h0
 obtain ⟨a1, w1, rfl⟩ := xO h1
 obtain ⟨a2, w2, rfl⟩ := xO h2
 obtain ⟨a3, w3, rfl⟩ := xO h3
 exact ⟨⟨a0, a1, a2, a3⟩, ⟨w0, w1, w2, w3⟩, rfl⟩
theorem V0 : ∀ (n : Nat) (cs : List Value), jJ (qbs n [.int .u8, .int .u8, .int .u8, .int .u8]).flatten cs → ∃ l : List C4, l.length = n ∧ (∀ c ∈ l, c.rng) ∧ cs = l.flatMap c4
 | 0, [], _ => ⟨[], rfl, (fun c h => by cases h), rfl⟩
 | 0, _ :: _, h => by cases h
 | n + 1, cs, h => by
  rw [List.replicate_succ, List.flatten_cons] at h
  obtain ⟨a, b, rfl, h1, h2⟩ := xN _ _ _ h
  obtain ⟨c, hc, rfl⟩ := HV _ h1
  obtain ⟨l, hl, hr, rfl⟩ := V0 n b h2
  exact ⟨c :: l, by rw [qbC, hl], fun d hd => (List.mem_cons.1 hd).elim (fun e => e ▸ hc) (hr d), rfl⟩
theorem HW (cs : List Value) (h : jJ (qbs 64 [.int .u8, .int .u8, .int .u8, .int .u8]).flatten cs) : ∃ t : TL, (∀ c ∈ t.l, c.rng) ∧ cs = tc t := by
 obtain ⟨l, hl, hr, rfl⟩ := V0 64 cs h
 exact ⟨⟨l, hl⟩, hr, rfl⟩
theorem J3 {w : World} : Opens Tryz.prog w 3 (fun a : Int => [.val (.int .i64 a)]) (fun a => -9223372036854775808 ≤ a ∧ a ≤ 9223372036854775807) := uN 1 (fun a : Int => [.int .i64 a]) _ Ze (by kernel_rfl)
theorem Q3 {α : Type} {w : World} {t e : TypeId} {ps : List Prim} {sz : Nat} (f : Nat) (en : α → List Value) (ok : α → Prop) (hP : ∀ cs, jJ ps cs → ∃ a, ok a ∧ cs = en a) (ht : Tryz.prog.underlying t = some (.slice e)) (hf : vN Tryz.prog f e = some ps) (hz : ps.length = sz) (hc : Tryz.prog.cellsOf e = sz) (hpos : 0 < sz)
  (hen : ∀ a, (en a).length = sz) : Opens Tryz.prog w t (fun l : List α => [.slf sz l.length (l.flatMap en)]) (fun l => ∀ a ∈ l, ok a) := by
 subst hz
 exact Wh f en ok hP ht hf hc hpos hen
abbrev kT : List Prim := (qbs 64 [.int .u8, .int .u8, .int .u8, .int .u8]).flatten
theorem qaY : kT.length = 256 := by kernel_rfl
theorem WV {w : World} : Opens Tryz.prog w 22 (fun l : List TL => [.slf 256 l.length (l.flatMap tc)]) (fun l => ∀ x ∈ l, ∀ c ∈ x.l, c.rng) :=
 Q3 4 tc (fun t => ∀ c ∈ t.l, c.rng) HW Tryz.underlying22 (show vN Tryz.prog 4 84 = some kT by kernel_rfl) qaY (by kernel_rfl) (by decide) qb
abbrev shL (a : Int × Int × List TL) : List D := [.val (.int .i64 a.1), .val (.int .i64 a.2.1), .slf 256 a.2.2.length (a.2.2.flatMap tc)]
theorem Zf {w : World} : Opens Tryz.prog w 24 shL (fun a => vu a.2.2) :=
 JE (fun a : Int × Int × List TL × Unit => (a.1, a.2.1, a.2.2.1)) (xv Tryz.underlying24 (by kernel_rfl) (gl (k := 1) rfl (by kernel_rfl) J3 (gl (k := 1) rfl (by kernel_rfl) J3 (gl (k := 1) rfl (by kernel_rfl) WV Kx)))) (fun _ => rfl) (fun _ h => h.2.2.1)
theorem Qf : ∀ cs, jJ [.int .u8] cs → ∃ a : Int, (0 ≤ a ∧ a ≤ 255) ∧ cs = uc8 a
 | [c0], h => by
  obtain ⟨h0, _⟩ := h
  obtain ⟨a, w, rfl⟩ := xO h0
  exact ⟨a, w, rfl⟩
 | [], h => by cases h
 | _ :: _ :: _, h => by obtain ⟨_, h⟩ := h; cases h
abbrev k9 : List Prim := [.int .u64, .int .u64, .int .u64, .int .u64, .int .u64, .int .u64, .int .u64, .int .u64, .int .u64]
theorem gE {v : Value} (h : (Prim.int .u64).is v) : ∃ n : Nat, v = .int .u64 n := by
 obtain ⟨a, w, rfl⟩ := uD h
 exact ⟨a.toNat, by rw [Int.toNat_of_nonneg w.1]⟩
theorem HX (cs : List Value) (h : jJ k9 cs) : ∃ v : Vec, (∀ i, 9 ≤ i → v i = 0) ∧ cs = c9 v := by
 obtain ⟨x0, r, rfl, h0, h⟩ := kW h
 obtain ⟨x1, r, rfl, h1, h⟩ := kW h
 obtain ⟨x2, r, rfl, h2, h⟩ := kW h
 obtain ⟨x3, r, rfl, h3, h⟩ := kW h
 obtain ⟨x4, r, rfl, h4, h⟩ := kW h
 obtain ⟨x5, r, rfl, h5, h⟩ := kW h
 obtain ⟨x6, r, rfl, h6, h⟩ := kW h
 obtain ⟨x7, r, rfl, h7, h⟩ := kW h
 obtain ⟨x8, r, rfl, h8, h⟩ := kW h
 obtain rfl := zm h
 obtain ⟨n0, rfl⟩ := gE h0
 obtain ⟨n1, rfl⟩ := gE h1
 obtain ⟨n2, rfl⟩ := gE h2
 obtain ⟨n3, rfl⟩ := gE h3
 obtain ⟨n4, rfl⟩ := gE h4
 obtain ⟨n5, rfl⟩ := gE h5
 obtain ⟨n6, rfl⟩ := gE h6
 obtain ⟨n7, rfl⟩ := gE h7
 obtain ⟨n8, rfl⟩ := gE h8
 exact ⟨fun i => [n0, n1, n2, n3, n4, n5, n6, n7, n8].getD i 0, fun i hi => by
  show [n0, n1, n2, n3, n4, n5, n6, n7, n8].getD i 0 = 0
  rw [qbI, qbN hi]
  rfl, rfl⟩
theorem HY (cs : List Value) (h : jJ [.int .u64] cs) : ∃ a : Nat, True ∧ cs = [.int .u64 (a : Int)] := by
 obtain ⟨x0, r, rfl, h0, h⟩ := kW h
 obtain rfl := zm h
 obtain ⟨a0, rfl⟩ := gE h0
 exact ⟨a0, trivial, rfl⟩
theorem J4 {w : World} : Opens Tryz.prog w 25 (fun a : Nat => [.val (.int .u64 (a : Int))]) (fun _ => True) := uN 1 (fun a : Nat => [.int .u64 (a : Int)]) _ HY (by kernel_rfl)
theorem WW {w : World} : Opens Tryz.prog w 27 (fun a : Vec => (c9 a).map .val) (fun v => ∀ i, 9 ≤ i → v i = 0) := uN 4 c9 _ HX (by kernel_rfl)
theorem K6 {w : World} : Opens Tryz.prog w 29 snL (fun s => vu s.ts ∧ 0 ≤ s.f ∧ ∀ i, 9 ≤ i → s.v i = 0) :=
 JE (fun a : (Int × Int × List TL) × Nat × Nat × Vec × Unit => (⟨a.1.1, a.1.2.1, a.1.2.2, a.2.1, a.2.2.1, a.2.2.2.1⟩ : SnM)) (xv Tryz.underlying29 (by kernel_rfl) (gl (k := 3) rfl (by kernel_rfl) Zf (gl (k := 1) rfl (by kernel_rfl) J4 (gl (k := 1) rfl (by kernel_rfl) J4 (gl (k := 9) rfl (by kernel_rfl) WW Kx))))) (fun _ => rfl) (fun _ h => ⟨h.1, Int.natCast_nonneg _, h.2.2.2.1⟩)
end Go.Proofs.YtofklkbfkoliiaaGreat
