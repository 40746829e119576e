/- snapshots that are read; snapshots, there and back; wakes; pieces gathered in any order; what was cut is gathered; arguments that are opened. No condition. -/
import Derived.Test.YtofklkbfkoliiaaQ6
import Derived.Test.YtofklkbfkoliiaaRows
set_option maxRecDepth 4000
set_option maxHeartbeats 1000000
open List renaming getElem?_eq_getElem → qak, length_append → qap, cons_append → qas, nil_append → qaw, replicate → qax, getD_eq_getElem?_getD → qaJ, length_take → qaN, append_assoc → qaQ, length_drop → qaR, range → qa3, getElem?_map → qa5, append_nil → qa6, mem_range → qba
open Nat renaming zero_add → qal, reduceAdd → qam, le_of_ble_eq_true → qaq, le_refl → qaE, le_trans → qaF, zero_le → qaZ
open Bool renaming and_eq_true → qan, or_eq_false_iff → qar, not_eq_true' → qau, not_eq_false' → qay, or_eq_true → qaA
open Go.IntWalk renaming i64_in → qat
open Int renaming not_lt → qaO, not_le → qaP, toNat_natCast → qaV
namespace Go.Proofs.Ytofklkbfkoliiaa
set_option linter.unusedVariables false
set_option linter.unusedSimpArgs false
open Go.RowKit
attribute [local irreducible] tkN jP ky kN vC kw jb GK jX UY
theorem fl54 : fdL Try.prog 54 = some [(0, 3), (3, 1), (4, 1), (5, 9)] := by kernel_rfl
theorem xB : zrC Try.prog 54 = some [.int .i64 0, .int .i64 0, .slice none 0 0, .int .u64 0, .int .u64 0, .int .u64 0, .int .u64 0, .int .u64 0, .int .u64 0, .int .u64 0, .int .u64 0, .int .u64 0, .int .u64 0, .int .u64 0] := by kernel_rfl
theorem G6 (s : SnM) (e : Int) : DDef Try.prog 34 [.loc 0 0, .loc 1 0] [.mix 54 (snL s), .flat 27 [.int .i64 e]] none none [.mix 54 (snL s), .flat 27 [.int .i64 e]] := by
 refine uq (dr := .tup []) (t := 2) (N := 6) 2 (by kernel_rfl) Try.func34 rfl rfl rfl (by simp only [fr0, qal, qam]; exact rfl) rfl rfl rfl rfl rfl fun s0 hs0 => ?_
 refine za rfl (zai [] [] [] rfl (ev1 rfl) (ec (ev1 rfl) en) rfl rfl (y1) rfl rfl rfl rfl rfl rfl) ?_
 refine za rfl (ki rfl (ev1 rfl) (ev1 rfl)) ?_
 refine zab ?_
 refine qj rfl (rfl) ?_
 refine qd ?_
 refine kc [0, 1] (qD rfl) rfl rfl ?_ ⟨rfl, rfl, trivial⟩
 rfl
theorem wo (f st : Int) (v : Vec) (e n : Int) (hn : n ≠ 0) : DDef Try.prog 34 [.loc 0 0, .loc 1 0] [.mix 54 ([.int .i64 0, .int .i64 0, .slice none 0 0, .int .u64 f, .int .u64 st, .int .u64 (v 0), .int .u64 (v 1), .int .u64 (v 2), .int .u64 (v 3), .int .u64 (v 4), .int .u64 (v 5), .int .u64 (v 6), .int .u64 (v 7), .int .u64 (v 8)].map D.val), .flat 27 [.int .i64 e]] (some (.ifc 88 (.val (.agg #[.int .i64 n])))) none [.mix 54 ([.int .i64 0, .int .i64 0, .slice none 0 0, .int .u64 0, .int .u64 0, .int .u64 0, .int .u64 0, .int .u64 0, .int .u64 0, .int .u64 0, .int .u64 0, .int .u64 0, .int .u64 0, .int .u64 0].map D.val), .flat 27 [.int .i64 310]] := by
 refine uq (dr := .tup []) (t := 2) (N := 6) 2 (by kernel_rfl) Try.func34 rfl rfl rfl (by simp only [fr0, qal, qam]; exact rfl) rfl rfl rfl rfl rfl fun s0 hs0 => ?_
 refine za rfl (zai [] [] [] rfl (ev1 rfl) (ec (ev1 rfl) en) rfl rfl (uL n) rfl rfl rfl rfl rfl rfl) ?_
 refine za rfl (ki rfl (ev1 rfl) (ev1 rfl)) ?_
 refine zab ?_
 refine qR rfl (by simpa using hn) ?_
 refine zac ?_
 refine za rfl (jG rfl fl54 xB) ?_
 refine qc rfl (yg rfl vr (ev1 rfl) (u5 (ev1 rfl) (Wk.vagg _)) rfl rfl rfl rfl rfl) ?_
 refine qc rfl (qG rfl qU (ev1 rfl) (ev1 rfl) rfl) ?_
 refine zab ?_
 refine kc [0, 1] (qD rfl) rfl rfl ?_ ⟨rfl, rfl, trivial⟩
 rfl
theorem V2 (s : SnM) (e n : Int) (hn : n ≠ 0) : DDef Try.prog 34 [.loc 0 0, .loc 1 0] [.mix 54 (snL s), .flat 27 [.int .i64 e]] (some (.ifc 88 (.val (.agg #[.int .i64 n])))) none [.mix 54 ([.int .i64 0, .int .i64 0, .slice none 0 0, .int .u64 0, .int .u64 0, .int .u64 0, .int .u64 0, .int .u64 0, .int .u64 0, .int .u64 0, .int .u64 0, .int .u64 0, .int .u64 0, .int .u64 0].map D.val), .flat 27 [.int .i64 310]] := by
 refine uq (dr := .tup []) (t := 2) (N := 6) 2 (by kernel_rfl) Try.func34 rfl rfl rfl (by simp only [fr0, qal, qam]; exact rfl) rfl rfl rfl rfl rfl fun s0 hs0 => ?_
 refine za rfl (zai [] [] [] rfl (ev1 rfl) (ec (ev1 rfl) en) rfl rfl (uL n) rfl rfl rfl rfl rfl rfl) ?_
 refine za rfl (ki rfl (ev1 rfl) (ev1 rfl)) ?_
 refine zab ?_
 refine qR rfl (by simpa using hn) ?_
 refine zac ?_
 refine za rfl (jG rfl fl54 xB) ?_
 refine qc rfl (yg rfl vr (ev1 rfl) (u5 (ev1 rfl) (Wk.vagg _)) rfl rfl rfl rfl rfl) ?_
 refine qc rfl (qG rfl qU (ev1 rfl) (ev1 rfl) rfl) ?_
 refine zab ?_
 refine kc [0, 1] (qD rfl) rfl rfl ?_ ⟨rfl, rfl, trivial⟩
 rfl
theorem wp {l r : List Int} {v : Vec} (hl : okL l) (h : vD l = .ok v r) : 64 ≤ l.length ∧ r = l.drop 64 ∧ r.length = l.length - 64 ∧ vB v = true ∧ (∀ i, 9 ≤ i → v i = 0) ∧ l = vC v ++ r := by
 obtain ⟨h1, h2, h3⟩ := (Ht 110 290).bwd l v r hl.1 h
 have h4 := G5 v
 have h5 : l.length = 64 + r.length := by rw [h1, qap, h4]
 refine ⟨by omega, ?_, by omega, h2, h3, h1⟩
 rw [h1, List.drop_left' h4]
theorem Xc (b : List Int) (hl : b.length ≤ 30000) (hi : isB b) (h : b.length < 8) : DFun Try.prog 13 [.slf 1 (b).length ((b).flatMap uc8)] [] (.tup [.agg ([.int .i64 0, .int .i64 0, .slice none 0 0, .int .u64 0, .int .u64 0, .int .u64 0, .int .u64 0, .int .u64 0, .int .u64 0, .int .u64 0, .int .u64 0, .int .u64 0, .int .u64 0, .int .u64 0].map D.val), .val (.int .i64 310)]) [] := by
 refine qn (N := 57) 0 (by kernel_rfl) Try.func13 rfl rfl rfl (by simp only [fr0, qal, qam]; exact rfl) rfl fun s0 hs0 => ?_
 refine qF rfl hs0 ?_
 refine zam 2 ?_
 refine zac ?_
 refine zaj rfl (zao 0 rfl xB rfl) ?_
 refine zaj rfl (zao 1 rfl j4 rfl) ?_
 refine zab ?_
 refine qr (l0 := [_]) rfl rfl rfl rfl rfl hs0 ?_
 refine za rfl (qX rfl en (ec (ev1 rfl) (ec (ev1 rfl) en))) ?_
 refine zab ⟨_, _, _, 2, ev1 rfl, qaF hs0 (by decide), rfl, ?_⟩
 have hs1 : s0.M.length ≤ 2 := qaF hs0 (by decide)
 refine qE rfl hs0 ?_
 refine zag ?_
 refine kQ 0 yf rfl rfl (by simp only [qas, qaw, zad, zaf, List.map]; exact rfl) ?_
 refine zac ?_
 refine zaa 1 rfl ?_
 refine za rfl (zai [] [] [] rfl (ev1 rfl) (ec (ev1 rfl) (ec (ev1 rfl) (ec (ev1 rfl) en))) rfl rfl (QP b (by omega) 0 (by omega) (by omega)) rfl rfl rfl rfl rfl rfl) ?_
 refine zaa 2 rfl ?_
 refine ke rfl (qA [] [] [] rfl (ev1 rfl) (ec (ev1 rfl) (ec (ev1 rfl) en)) rfl rfl (GR _ _ rfl) rfl rfl rfl rfl rfl rfl) rfl ?_
 refine jO (qP [0, 1] [] rfl rfl rfl (wo _ _ z9 _ _ (by first | decide | assumption)) rfl rfl rfl rfl rfl) ?_
 refine qH (rs2 rfl (wB vr rfl rfl rfl) (jB qU rfl rfl rfl)) rfl ?_
 rfl
theorem Xd (b : List Int) (hl : b.length ≤ 30000) (hi : isB b) (h8 : 8 ≤ b.length) (h : b.length < 16) : DFun Try.prog 13 [.slf 1 (b).length ((b).flatMap uc8)] [] (.tup [.agg ([.int .i64 0, .int .i64 0, .slice none 0 0, .int .u64 0, .int .u64 0, .int .u64 0, .int .u64 0, .int .u64 0, .int .u64 0, .int .u64 0, .int .u64 0, .int .u64 0, .int .u64 0, .int .u64 0].map D.val), .val (.int .i64 310)]) [] := by
 refine qn (N := 57) 0 (by kernel_rfl) Try.func13 rfl rfl rfl (by simp only [fr0, qal, qam]; exact rfl) rfl fun s0 hs0 => ?_
 refine qF rfl hs0 ?_
 refine zam 2 ?_
 refine zac ?_
 refine zaj rfl (zao 0 rfl xB rfl) ?_
 refine zaj rfl (zao 1 rfl j4 rfl) ?_
 refine zab ?_
 refine qr (l0 := [_]) rfl rfl rfl rfl rfl hs0 ?_
 refine za rfl (qX rfl en (ec (ev1 rfl) (ec (ev1 rfl) en))) ?_
 refine zab ⟨_, _, _, 2, ev1 rfl, qaF hs0 (by decide), rfl, ?_⟩
 have hs1 : s0.M.length ≤ 2 := qaF hs0 (by decide)
 refine qE rfl hs0 ?_
 refine zag ?_
 refine kQ 0 yf rfl rfl (by simp only [qas, qaw, zad, zaf, List.map]; exact rfl) ?_
 refine zac ?_
 refine zaa 1 rfl ?_
 refine za rfl (zai [] [] [] rfl (ev1 rfl) (ec (ev1 rfl) (ec (ev1 rfl) (ec (ev1 rfl) en))) rfl rfl (yi b (by omega) 0 (by omega)) rfl rfl rfl rfl rfl rfl) ?_
 refine zaa 2 rfl ?_
 refine za rfl (zai [] [] [] rfl (ev1 rfl) (ec (ev1 rfl) (ec (ev1 rfl) en)) rfl rfl (gy (ky 8 b)) rfl rfl rfl rfl rfl rfl) ?_
 refine za rfl (qa rfl vp (ev1 rfl)) ?_
 refine qc rfl (kF rfl kz (ev1 rfl) (ev1 rfl) (fun s v h => by cases h <;> exact ⟨rfl, rfl⟩) rfl (by first | decide | exact qaq rfl | simp)) ?_
 refine zab ?_
 refine zah ?_
 refine zaa 1 rfl ?_
 refine za rfl (zai [] [] [] rfl (ev1 rfl) (ec (ev1 rfl) (ec (ev1 rfl) (ec (ev1 rfl) en))) rfl rfl (QP b (by omega) 8 (by omega) (by omega)) rfl rfl rfl rfl rfl rfl) ?_
 refine zaa 2 rfl ?_
 refine ke rfl (qA [] [] [] rfl (ev1 rfl) (ec (ev1 rfl) (ec (ev1 rfl) en)) rfl rfl (GR _ _ rfl) rfl rfl rfl rfl rfl rfl) rfl ?_
 refine jO (qP [0, 1] [] rfl rfl rfl (wo _ _ z9 _ _ (by first | decide | assumption)) rfl rfl rfl rfl rfl) ?_
 refine qH (rs2 rfl (wB vr rfl rfl rfl) (jB qU rfl rfl rfl)) rfl ?_
 rfl
theorem Xe (b : List Int) (hl : b.length ≤ 30000) (hi : isB b) (h16 : 16 ≤ b.length) (e : Int) (he : e ≠ 0) (hv : vD (b.drop 16) = .err e) : DFun Try.prog 13 [.slf 1 (b).length ((b).flatMap uc8)] [] (.tup [.agg ([.int .i64 0, .int .i64 0, .slice none 0 0, .int .u64 0, .int .u64 0, .int .u64 0, .int .u64 0, .int .u64 0, .int .u64 0, .int .u64 0, .int .u64 0, .int .u64 0, .int .u64 0, .int .u64 0].map D.val), .val (.int .i64 310)]) [] := by
 have hld : (b.drop 16).length = b.length - 16 := qaR
 have hk1 : okL (b.drop 16) := ⟨jl hi 16, by omega⟩
 refine qn (N := 57) 0 (by kernel_rfl) Try.func13 rfl rfl rfl (by simp only [fr0, qal, qam]; exact rfl) rfl fun s0 hs0 => ?_
 refine qF rfl hs0 ?_
 refine zam 2 ?_
 refine zac ?_
 refine zaj rfl (zao 0 rfl xB rfl) ?_
 refine zaj rfl (zao 1 rfl j4 rfl) ?_
 refine zab ?_
 refine qr (l0 := [_]) rfl rfl rfl rfl rfl hs0 ?_
 refine za rfl (qX rfl en (ec (ev1 rfl) (ec (ev1 rfl) en))) ?_
 refine zab ⟨_, _, _, 2, ev1 rfl, qaF hs0 (by decide), rfl, ?_⟩
 have hs1 : s0.M.length ≤ 2 := qaF hs0 (by decide)
 refine qE rfl hs0 ?_
 refine zag ?_
 refine kQ 0 yf rfl rfl (by simp only [qas, qaw, zad, zaf, List.map]; exact rfl) ?_
 refine zac ?_
 refine zaa 1 rfl ?_
 refine za rfl (zai [] [] [] rfl (ev1 rfl) (ec (ev1 rfl) (ec (ev1 rfl) (ec (ev1 rfl) en))) rfl rfl (yi b (by omega) 0 (by omega)) rfl rfl rfl rfl rfl rfl) ?_
 refine zaa 2 rfl ?_
 refine za rfl (zai [] [] [] rfl (ev1 rfl) (ec (ev1 rfl) (ec (ev1 rfl) en)) rfl rfl (gy (ky 8 b)) rfl rfl rfl rfl rfl rfl) ?_
 refine za rfl (qa rfl vp (ev1 rfl)) ?_
 refine qc rfl (kF rfl kz (ev1 rfl) (ev1 rfl) (fun s v h => by cases h <;> exact ⟨rfl, rfl⟩) rfl (by first | decide | exact qaq rfl | simp)) ?_
 refine zab ?_
 refine zah ?_
 refine zaa 1 rfl ?_
 refine za rfl (zai [] [] [] rfl (ev1 rfl) (ec (ev1 rfl) (ec (ev1 rfl) (ec (ev1 rfl) en))) rfl rfl (yi b (by omega) 8 (by omega)) rfl rfl rfl rfl rfl rfl) ?_
 refine zaa 2 rfl ?_
 refine za rfl (zai [] [] [] rfl (ev1 rfl) (ec (ev1 rfl) (ec (ev1 rfl) en)) rfl rfl (gy (ky 8 (b.drop 8))) rfl rfl rfl rfl rfl rfl) ?_
 refine za rfl (qa rfl vq (ev1 rfl)) ?_
 refine qc rfl (kF rfl kz (ev1 rfl) (ev1 rfl) (fun s v h => by cases h <;> exact ⟨rfl, rfl⟩) rfl (by first | decide | exact qaq rfl | simp)) ?_
 refine zab ?_
 refine zah ?_
 refine zaa 1 rfl ?_
 refine zab ?_
 refine zah ?_
 refine zaa 1 rfl ?_
 refine za rfl (gO (i := 16) rfl qK (ev1 rfl) (ji (ev1 rfl)) (fun _ => by omega) (fun _ => by omega) (fun _ => rfl)) ?_
 refine zaa 1 rfl ?_
 refine zab ?_
 refine zah ?_
 refine zaa 1 rfl ?_
 refine za rfl (zai [] [] [] rfl (ev1 rfl) (ec (ev1 rfl) en) rfl rfl (Kd (b.drop 16) hk1 (by omega) e hv) rfl rfl rfl rfl rfl rfl) ?_
 refine zaa 4 rfl ?_
 refine za rfl (qa rfl v5 (ev1 rfl)) ?_
 refine qc rfl (yg rfl gw (ev1 rfl) (u5 (ev1 rfl) (Wk.vagg _)) rfl rfl rfl rfl rfl) ?_
 refine zaa 1 rfl ?_
 refine qc rfl (qG rfl qU (ev1 rfl) (ev1 rfl) rfl) ?_
 refine zab ?_
 refine zah ?_
 refine za rfl (qq rfl qU (ev1 rfl) rfl rfl) ?_
 refine za rfl (qB rfl (ev1 rfl) (ev1 rfl)) ?_
 refine za rfl (qq rfl qU (ev1 rfl) rfl rfl) ?_
 refine ke rfl (qA [] [] [] rfl (ev1 rfl) (ec (ev1 rfl) (ec (ev1 rfl) en)) rfl rfl (j9 _ _ (by simpa using he)) rfl rfl rfl rfl rfl rfl) rfl ?_
 refine jO (qP [0, 1] [] rfl rfl rfl (wo _ _ z9 _ _ (by first | decide | assumption)) rfl rfl rfl rfl rfl) ?_
 refine qH (rs2 rfl (wB vr rfl rfl rfl) (jB qU rfl rfl rfl)) rfl ?_
 rfl
theorem Xf (b : List Int) (hl : b.length ≤ 30000) (hi : isB b) (h16 : 16 ≤ b.length) (v : Vec) (r : List Int) (hv : vD (b.drop 16) = .ok v r) (hx : UY r) : DFun Try.prog 13 [.slf 1 (b).length ((b).flatMap uc8)] [] (.tup [.agg ([.int .i64 0, .int .i64 0, .slice none 0 0, .int .u64 0, .int .u64 0, .int .u64 0, .int .u64 0, .int .u64 0, .int .u64 0, .int .u64 0, .int .u64 0, .int .u64 0, .int .u64 0, .int .u64 0].map D.val), .val (.int .i64 310)]) [] := by
 have hld : (b.drop 16).length = b.length - 16 := qaR
 have hk1 : okL (b.drop 16) := ⟨jl hi 16, by omega⟩
 obtain ⟨hr64, hre, hrl, hvB, hv9, hrv⟩ := wp hk1 hv
 have hir : isB r := by rw [hre]; exact jl (jl hi 16) 64
 refine qn (N := 57) 0 (by kernel_rfl) Try.func13 rfl rfl rfl (by simp only [fr0, qal, qam]; exact rfl) rfl fun s0 hs0 => ?_
 refine qF rfl hs0 ?_
 refine zam 2 ?_
 refine zac ?_
 refine zaj rfl (zao 0 rfl xB rfl) ?_
 refine zaj rfl (zao 1 rfl j4 rfl) ?_
 refine zab ?_
 refine qr (l0 := [_]) rfl rfl rfl rfl rfl hs0 ?_
 refine za rfl (qX rfl en (ec (ev1 rfl) (ec (ev1 rfl) en))) ?_
 refine zab ⟨_, _, _, 2, ev1 rfl, qaF hs0 (by decide), rfl, ?_⟩
 have hs1 : s0.M.length ≤ 2 := qaF hs0 (by decide)
 refine qE rfl hs0 ?_
 refine zag ?_
 refine kQ 0 yf rfl rfl (by simp only [qas, qaw, zad, zaf, List.map]; exact rfl) ?_
 refine zac ?_
 refine zaa 1 rfl ?_
 refine za rfl (zai [] [] [] rfl (ev1 rfl) (ec (ev1 rfl) (ec (ev1 rfl) (ec (ev1 rfl) en))) rfl rfl (yi b (by omega) 0 (by omega)) rfl rfl rfl rfl rfl rfl) ?_
 refine zaa 2 rfl ?_
 refine za rfl (zai [] [] [] rfl (ev1 rfl) (ec (ev1 rfl) (ec (ev1 rfl) en)) rfl rfl (gy (ky 8 b)) rfl rfl rfl rfl rfl rfl) ?_
 refine za rfl (qa rfl vp (ev1 rfl)) ?_
 refine qc rfl (kF rfl kz (ev1 rfl) (ev1 rfl) (fun s v h => by cases h <;> exact ⟨rfl, rfl⟩) rfl (by first | decide | exact qaq rfl | simp)) ?_
 refine zab ?_
 refine zah ?_
 refine zaa 1 rfl ?_
 refine za rfl (zai [] [] [] rfl (ev1 rfl) (ec (ev1 rfl) (ec (ev1 rfl) (ec (ev1 rfl) en))) rfl rfl (yi b (by omega) 8 (by omega)) rfl rfl rfl rfl rfl rfl) ?_
 refine zaa 2 rfl ?_
 refine za rfl (zai [] [] [] rfl (ev1 rfl) (ec (ev1 rfl) (ec (ev1 rfl) en)) rfl rfl (gy (ky 8 (b.drop 8))) rfl rfl rfl rfl rfl rfl) ?_
 refine za rfl (qa rfl vq (ev1 rfl)) ?_
 refine qc rfl (kF rfl kz (ev1 rfl) (ev1 rfl) (fun s v h => by cases h <;> exact ⟨rfl, rfl⟩) rfl (by first | decide | exact qaq rfl | simp)) ?_
 refine zab ?_
 refine zah ?_
 refine zaa 1 rfl ?_
 refine zab ?_
 refine zah ?_
 refine zaa 1 rfl ?_
 refine za rfl (gO (i := 16) rfl qK (ev1 rfl) (ji (ev1 rfl)) (fun _ => by omega) (fun _ => by omega) (fun _ => rfl)) ?_
 refine zaa 1 rfl ?_
 refine zab ?_
 refine zah ?_
 refine zaa 1 rfl ?_
 refine za rfl (zai [] [] [] rfl (ev1 rfl) (ec (ev1 rfl) en) rfl rfl (yO (b.drop 16) hk1 (by omega) v r hv (by omega)) rfl rfl rfl rfl rfl rfl) ?_
 refine zaa 4 rfl ?_
 refine za rfl (qa rfl v5 (ev1 rfl)) ?_
 refine qc rfl (yg rfl gw (ev1 rfl) (u5 (ev1 rfl) (Wk.vagg _)) rfl rfl rfl rfl rfl) ?_
 refine zaa 1 rfl ?_
 refine qc rfl (qG rfl qU (ev1 rfl) (ev1 rfl) rfl) ?_
 refine zab ?_
 refine zah ?_
 refine za rfl (qq rfl qU (ev1 rfl) rfl rfl) ?_
 refine za rfl (qB rfl (ev1 rfl) (ev1 rfl)) ?_
 refine za rfl (qq rfl qU (ev1 rfl) rfl rfl) ?_
 refine za rfl (zai [] [] [] rfl (ev1 rfl) (ec (ev1 rfl) (ec (ev1 rfl) en)) rfl rfl (kg _ _ (rfl)) rfl rfl rfl rfl rfl rfl) ?_
 refine zab ?_
 refine zah ?_
 refine zaa 2 rfl ?_
 refine za rfl ((gO (i := 64) rfl qK (ev1 rfl) (ji (ev1 rfl)) (fun _ => by omega) (fun _ => by omega) (fun _ => rfl)).cast (d' := .slf 1 (r).length ((r).flatMap uc8)) (by rw [hre])) ?_
 refine zaa 1 rfl ?_
 refine zab ?_
 refine zah ?_
 refine zaa 1 rfl ?_
 refine za rfl (zai [] [] [] rfl (ev1 rfl) (ec (ev1 rfl) en) rfl rfl (AX r (by omega) hir hx) rfl rfl rfl rfl rfl rfl) ?_
 refine zaa 4 rfl ?_
 refine za rfl (qa rfl w6 (ev1 rfl)) ?_
 refine qc rfl (yg rfl vA (ev1 rfl) (u5 (ev1 rfl) (Wk.vagg _)) rfl rfl rfl rfl rfl) ?_
 refine zaa 1 rfl ?_
 refine qc rfl (qG rfl qU (ev1 rfl) (ev1 rfl) rfl) ?_
 refine zab ?_
 refine zah ?_
 refine za rfl (qq rfl qU (ev1 rfl) rfl rfl) ?_
 refine za rfl (qB rfl (ev1 rfl) (ev1 rfl)) ?_
 refine za rfl (qq rfl qU (ev1 rfl) rfl rfl) ?_
 refine ke rfl (qA [] [] [] rfl (ev1 rfl) (ec (ev1 rfl) (ec (ev1 rfl) en)) rfl rfl (j9 _ _ (rfl)) rfl rfl rfl rfl rfl rfl) rfl ?_
 refine jO (qP [0, 1] [] rfl rfl rfl (wo _ _ v _ _ (by first | decide | assumption)) rfl rfl rfl rfl rfl) ?_
 refine qH (rs2 rfl (wB vr rfl rfl rfl) (jB qU rfl rfl rfl)) rfl ?_
 rfl
theorem Xg (b : List Int) (hl : b.length ≤ 30000) (hi : isB b) (h16 : 16 ≤ b.length) (v : Vec) (r : List Int) (hv : vD (b.drop 16) = .ok v r) (n : Nat) (h2 : 0 + 2 ≤ r.length) (hm : gB (bAt r 0) (bAt r 1) = true) (hn : bAt r 0 * bAt r 1 = (n : Int)) (us : List TL) (q : Nat) (h0 : jX ka r n [] 2 = some (us, q)) (hbad : ¬ (q = r.length ∧ uO (⟨bAt r 0, bAt r 1, us, ky 8 b, ky 8 (b.drop 8), v⟩ : SnM) = true)) : DFun Try.prog 13 [.slf 1 (b).length ((b).flatMap uc8)] [] (.tup [.agg ([.int .i64 0, .int .i64 0, .slice none 0 0, .int .u64 0, .int .u64 0, .int .u64 0, .int .u64 0, .int .u64 0, .int .u64 0, .int .u64 0, .int .u64 0, .int .u64 0, .int .u64 0, .int .u64 0].map D.val), .val (.int .i64 310)]) [] := by
 have hld : (b.drop 16).length = b.length - 16 := qaR
 have hk1 : okL (b.drop 16) := ⟨jl hi 16, by omega⟩
 obtain ⟨hr64, hre, hrl, hvB, hv9, hrv⟩ := wp hk1 hv
 have hir : isB r := by rw [hre]; exact jl (jl hi 16) 64
 refine qn (N := 57) 0 (by kernel_rfl) Try.func13 rfl rfl rfl (by simp only [fr0, qal, qam]; exact rfl) rfl fun s0 hs0 => ?_
 refine qF rfl hs0 ?_
 refine zam 2 ?_
 refine zac ?_
 refine zaj rfl (zao 0 rfl xB rfl) ?_
 refine zaj rfl (zao 1 rfl j4 rfl) ?_
 refine zab ?_
 refine qr (l0 := [_]) rfl rfl rfl rfl rfl hs0 ?_
 refine za rfl (qX rfl en (ec (ev1 rfl) (ec (ev1 rfl) en))) ?_
 refine zab ⟨_, _, _, 2, ev1 rfl, qaF hs0 (by decide), rfl, ?_⟩
 have hs1 : s0.M.length ≤ 2 := qaF hs0 (by decide)
 refine qE rfl hs0 ?_
 refine zag ?_
 refine kQ 0 yf rfl rfl (by simp only [qas, qaw, zad, zaf, List.map]; exact rfl) ?_
 refine zac ?_
 refine zaa 1 rfl ?_
 refine za rfl (zai [] [] [] rfl (ev1 rfl) (ec (ev1 rfl) (ec (ev1 rfl) (ec (ev1 rfl) en))) rfl rfl (yi b (by omega) 0 (by omega)) rfl rfl rfl rfl rfl rfl) ?_
 refine zaa 2 rfl ?_
 refine za rfl (zai [] [] [] rfl (ev1 rfl) (ec (ev1 rfl) (ec (ev1 rfl) en)) rfl rfl (gy (ky 8 b)) rfl rfl rfl rfl rfl rfl) ?_
 refine za rfl (qa rfl vp (ev1 rfl)) ?_
 refine qc rfl (kF rfl kz (ev1 rfl) (ev1 rfl) (fun s v h => by cases h <;> exact ⟨rfl, rfl⟩) rfl (by first | decide | exact qaq rfl | simp)) ?_
 refine zab ?_
 refine zah ?_
 refine zaa 1 rfl ?_
 refine za rfl (zai [] [] [] rfl (ev1 rfl) (ec (ev1 rfl) (ec (ev1 rfl) (ec (ev1 rfl) en))) rfl rfl (yi b (by omega) 8 (by omega)) rfl rfl rfl rfl rfl rfl) ?_
 refine zaa 2 rfl ?_
 refine za rfl (zai [] [] [] rfl (ev1 rfl) (ec (ev1 rfl) (ec (ev1 rfl) en)) rfl rfl (gy (ky 8 (b.drop 8))) rfl rfl rfl rfl rfl rfl) ?_
 refine za rfl (qa rfl vq (ev1 rfl)) ?_
 refine qc rfl (kF rfl kz (ev1 rfl) (ev1 rfl) (fun s v h => by cases h <;> exact ⟨rfl, rfl⟩) rfl (by first | decide | exact qaq rfl | simp)) ?_
 refine zab ?_
 refine zah ?_
 refine zaa 1 rfl ?_
 refine zab ?_
 refine zah ?_
 refine zaa 1 rfl ?_
 refine za rfl (gO (i := 16) rfl qK (ev1 rfl) (ji (ev1 rfl)) (fun _ => by omega) (fun _ => by omega) (fun _ => rfl)) ?_
 refine zaa 1 rfl ?_
 refine zab ?_
 refine zah ?_
 refine zaa 1 rfl ?_
 refine za rfl (zai [] [] [] rfl (ev1 rfl) (ec (ev1 rfl) en) rfl rfl (yO (b.drop 16) hk1 (by omega) v r hv (by omega)) rfl rfl rfl rfl rfl rfl) ?_
 refine zaa 4 rfl ?_
 refine za rfl (qa rfl v5 (ev1 rfl)) ?_
 refine qc rfl (yg rfl gw (ev1 rfl) (u5 (ev1 rfl) (Wk.vagg _)) rfl rfl rfl rfl rfl) ?_
 refine zaa 1 rfl ?_
 refine qc rfl (qG rfl qU (ev1 rfl) (ev1 rfl) rfl) ?_
 refine zab ?_
 refine zah ?_
 refine za rfl (qq rfl qU (ev1 rfl) rfl rfl) ?_
 refine za rfl (qB rfl (ev1 rfl) (ev1 rfl)) ?_
 refine za rfl (qq rfl qU (ev1 rfl) rfl rfl) ?_
 refine za rfl (zai [] [] [] rfl (ev1 rfl) (ec (ev1 rfl) (ec (ev1 rfl) en)) rfl rfl (kg _ _ (rfl)) rfl rfl rfl rfl rfl rfl) ?_
 refine zab ?_
 refine zah ?_
 refine zaa 2 rfl ?_
 refine za rfl ((gO (i := 64) rfl qK (ev1 rfl) (ji (ev1 rfl)) (fun _ => by omega) (fun _ => by omega) (fun _ => rfl)).cast (d' := .slf 1 (r).length ((r).flatMap uc8)) (by rw [hre])) ?_
 refine zaa 1 rfl ?_
 refine zab ?_
 refine zah ?_
 refine zaa 1 rfl ?_
 refine za rfl (zai [] [] [] rfl (ev1 rfl) (ec (ev1 rfl) en) rfl rfl (Hr r (by omega) hir n h2 hm hn us q h0) rfl rfl rfl rfl rfl rfl) ?_
 refine zaa 4 rfl ?_
 refine za rfl (qa rfl w6 (ev1 rfl)) ?_
 refine qc rfl (yg rfl vA (ev1 rfl) (ev1 rfl) rfl rfl rfl rfl rfl) ?_
 refine zaa 1 rfl ?_
 refine qc rfl (qG rfl qU (ev1 rfl) (ev1 rfl) rfl) ?_
 refine zab ?_
 refine zah ?_
 refine za rfl (qq rfl qU (ev1 rfl) rfl rfl) ?_
 refine za rfl (qB rfl (ev1 rfl) (ev1 rfl)) ?_
 refine za rfl (qq rfl qU (ev1 rfl) rfl rfl) ?_
 refine za rfl (zai [] [] [] rfl (ev1 rfl) (ec (ev1 rfl) (ec (ev1 rfl) en)) rfl rfl (kg _ _ (rfl)) rfl rfl rfl rfl rfl rfl) ?_
 refine zab ?_
 refine zah ?_
 refine zaa 2 rfl ?_
 refine za rfl (qJ rfl qK (ev1 rfl)) ?_
 refine za rfl (qB rfl (ev1 rfl) (ev1 rfl)) ?_
 refine zaa 1 rfl ?_
 refine zak (qC rfl rfl rfl) rfl rfl rfl (qi rfl vr (ev1 rfl) rfl rfl) ?_
 refine zak (qC rfl rfl rfl) rfl rfl rfl (zai [] [] [] rfl (ev1 rfl) (ec (ev2 rfl) en) rfl rfl (zZ (⟨bAt r 0, bAt r 1, us, ky 8 b, ky 8 (b.drop 8), v⟩ : SnM)) rfl rfl rfl rfl rfl rfl) ?_
 refine zak (qC rfl rfl rfl) rfl rfl rfl (qB rfl (ev2 rfl) (ev1 rfl)) ?_
 refine za rfl (q9 rfl (ev1 rfl) (ev3 rfl id)) ?_
 refine ke rfl (qA [] [] [] rfl (ev1 rfl) (ec (ev1 rfl) (ec (ev1 rfl) en)) rfl rfl (j9 _ _ (by rw [GW _ (by decide)]; rw [Bool.eq_false_iff]; intro hc; rw [qan] at hc; exact hbad ⟨by have := hc.1; simp at this; omega, hc.2⟩)) rfl rfl rfl rfl rfl rfl) rfl ?_
 refine jO (qP [0, 1] [] rfl rfl rfl (V2 (⟨bAt r 0, bAt r 1, us, ky 8 b, ky 8 (b.drop 8), v⟩ : SnM) _ _ (by first | decide | assumption)) rfl rfl rfl rfl rfl) ?_
 refine qH (rs2 rfl (wB vr rfl rfl rfl) (jB qU rfl rfl rfl)) rfl ?_
 rfl
theorem ZV (b : List Int) (hl : b.length ≤ 30000) (hi : isB b) (h16 : 16 ≤ b.length) (v : Vec) (r : List Int) (hv : vD (b.drop 16) = .ok v r) (n : Nat) (h2 : 0 + 2 ≤ r.length) (hm : gB (bAt r 0) (bAt r 1) = true) (hn : bAt r 0 * bAt r 1 = (n : Int)) (us : List TL) (q : Nat) (h0 : jX ka r n [] 2 = some (us, q)) (hq : q = r.length) (hk : uO (⟨bAt r 0, bAt r 1, us, ky 8 b, ky 8 (b.drop 8), v⟩ : SnM) = true) : DFun Try.prog 13 [.slf 1 (b).length ((b).flatMap uc8)] [] (.tup [.agg (snL (⟨bAt r 0, bAt r 1, us, ky 8 b, ky 8 (b.drop 8), v⟩ : SnM)), .val (.int .i64 0)]) [] := by
 have hld : (b.drop 16).length = b.length - 16 := qaR
 have hk1 : okL (b.drop 16) := ⟨jl hi 16, by omega⟩
 obtain ⟨hr64, hre, hrl, hvB, hv9, hrv⟩ := wp hk1 hv
 have hir : isB r := by rw [hre]; exact jl (jl hi 16) 64
 refine qn (N := 57) 0 (by kernel_rfl) Try.func13 rfl rfl rfl (by simp only [fr0, qal, qam]; exact rfl) rfl fun s0 hs0 => ?_
 refine qF rfl hs0 ?_
 refine zam 2 ?_
 refine zac ?_
 refine zaj rfl (zao 0 rfl xB rfl) ?_
 refine zaj rfl (zao 1 rfl j4 rfl) ?_
 refine zab ?_
 refine qr (l0 := [_]) rfl rfl rfl rfl rfl hs0 ?_
 refine za rfl (qX rfl en (ec (ev1 rfl) (ec (ev1 rfl) en))) ?_
 refine zab ⟨_, _, _, 2, ev1 rfl, qaF hs0 (by decide), rfl, ?_⟩
 have hs1 : s0.M.length ≤ 2 := qaF hs0 (by decide)
 refine qE rfl hs0 ?_
 refine zag ?_
 refine kQ 0 yf rfl rfl (by simp only [qas, qaw, zad, zaf, List.map]; exact rfl) ?_
 refine zac ?_
 refine zaa 1 rfl ?_
 refine za rfl (zai [] [] [] rfl (ev1 rfl) (ec (ev1 rfl) (ec (ev1 rfl) (ec (ev1 rfl) en))) rfl rfl (yi b (by omega) 0 (by omega)) rfl rfl rfl rfl rfl rfl) ?_
 refine zaa 2 rfl ?_
 refine za rfl (zai [] [] [] rfl (ev1 rfl) (ec (ev1 rfl) (ec (ev1 rfl) en)) rfl rfl (gy (ky 8 b)) rfl rfl rfl rfl rfl rfl) ?_
 refine za rfl (qa rfl vp (ev1 rfl)) ?_
 refine qc rfl (kF rfl kz (ev1 rfl) (ev1 rfl) (fun s v h => by cases h <;> exact ⟨rfl, rfl⟩) rfl (by first | decide | exact qaq rfl | simp)) ?_
 refine zab ?_
 refine zah ?_
 refine zaa 1 rfl ?_
 refine za rfl (zai [] [] [] rfl (ev1 rfl) (ec (ev1 rfl) (ec (ev1 rfl) (ec (ev1 rfl) en))) rfl rfl (yi b (by omega) 8 (by omega)) rfl rfl rfl rfl rfl rfl) ?_
 refine zaa 2 rfl ?_
 refine za rfl (zai [] [] [] rfl (ev1 rfl) (ec (ev1 rfl) (ec (ev1 rfl) en)) rfl rfl (gy (ky 8 (b.drop 8))) rfl rfl rfl rfl rfl rfl) ?_
 refine za rfl (qa rfl vq (ev1 rfl)) ?_
 refine qc rfl (kF rfl kz (ev1 rfl) (ev1 rfl) (fun s v h => by cases h <;> exact ⟨rfl, rfl⟩) rfl (by first | decide | exact qaq rfl | simp)) ?_
 refine zab ?_
 refine zah ?_
 refine zaa 1 rfl ?_
 refine zab ?_
 refine zah ?_
 refine zaa 1 rfl ?_
 refine za rfl (gO (i := 16) rfl qK (ev1 rfl) (ji (ev1 rfl)) (fun _ => by omega) (fun _ => by omega) (fun _ => rfl)) ?_
 refine zaa 1 rfl ?_
 refine zab ?_
 refine zah ?_
 refine zaa 1 rfl ?_
 refine za rfl (zai [] [] [] rfl (ev1 rfl) (ec (ev1 rfl) en) rfl rfl (yO (b.drop 16) hk1 (by omega) v r hv (by omega)) rfl rfl rfl rfl rfl rfl) ?_
 refine zaa 4 rfl ?_
 refine za rfl (qa rfl v5 (ev1 rfl)) ?_
 refine qc rfl (yg rfl gw (ev1 rfl) (u5 (ev1 rfl) (Wk.vagg _)) rfl rfl rfl rfl rfl) ?_
 refine zaa 1 rfl ?_
 refine qc rfl (qG rfl qU (ev1 rfl) (ev1 rfl) rfl) ?_
 refine zab ?_
 refine zah ?_
 refine za rfl (qq rfl qU (ev1 rfl) rfl rfl) ?_
 refine za rfl (qB rfl (ev1 rfl) (ev1 rfl)) ?_
 refine za rfl (qq rfl qU (ev1 rfl) rfl rfl) ?_
 refine za rfl (zai [] [] [] rfl (ev1 rfl) (ec (ev1 rfl) (ec (ev1 rfl) en)) rfl rfl (kg _ _ (rfl)) rfl rfl rfl rfl rfl rfl) ?_
 refine zab ?_
 refine zah ?_
 refine zaa 2 rfl ?_
 refine za rfl ((gO (i := 64) rfl qK (ev1 rfl) (ji (ev1 rfl)) (fun _ => by omega) (fun _ => by omega) (fun _ => rfl)).cast (d' := .slf 1 (r).length ((r).flatMap uc8)) (by rw [hre])) ?_
 refine zaa 1 rfl ?_
 refine zab ?_
 refine zah ?_
 refine zaa 1 rfl ?_
 refine za rfl (zai [] [] [] rfl (ev1 rfl) (ec (ev1 rfl) en) rfl rfl (Hr r (by omega) hir n h2 hm hn us q h0) rfl rfl rfl rfl rfl rfl) ?_
 refine zaa 4 rfl ?_
 refine za rfl (qa rfl w6 (ev1 rfl)) ?_
 refine qc rfl (yg rfl vA (ev1 rfl) (ev1 rfl) rfl rfl rfl rfl rfl) ?_
 refine zaa 1 rfl ?_
 refine qc rfl (qG rfl qU (ev1 rfl) (ev1 rfl) rfl) ?_
 refine zab ?_
 refine zah ?_
 refine za rfl (qq rfl qU (ev1 rfl) rfl rfl) ?_
 refine za rfl (qB rfl (ev1 rfl) (ev1 rfl)) ?_
 refine za rfl (qq rfl qU (ev1 rfl) rfl rfl) ?_
 refine za rfl (zai [] [] [] rfl (ev1 rfl) (ec (ev1 rfl) (ec (ev1 rfl) en)) rfl rfl (kg _ _ (rfl)) rfl rfl rfl rfl rfl rfl) ?_
 refine zab ?_
 refine zah ?_
 refine zaa 2 rfl ?_
 refine za rfl (qJ rfl qK (ev1 rfl)) ?_
 refine za rfl (qB rfl (ev1 rfl) (ev1 rfl)) ?_
 refine zaa 1 rfl ?_
 refine zak (qC rfl rfl rfl) rfl rfl rfl (qi rfl vr (ev1 rfl) rfl rfl) ?_
 refine zak (qC rfl rfl rfl) rfl rfl rfl (zai [] [] [] rfl (ev1 rfl) (ec (ev2 rfl) en) rfl rfl (zZ (⟨bAt r 0, bAt r 1, us, ky 8 b, ky 8 (b.drop 8), v⟩ : SnM)) rfl rfl rfl rfl rfl rfl) ?_
 refine zak (qC rfl rfl rfl) rfl rfl rfl (qB rfl (ev2 rfl) (ev1 rfl)) ?_
 refine za rfl (q9 rfl (ev1 rfl) (ev3 rfl id)) ?_
 refine za rfl (zai [] [] [] rfl (ev1 rfl) (ec (ev1 rfl) (ec (ev1 rfl) en)) rfl rfl (kg _ _ (by rw [GW _ (by decide), hk]; simp; omega)) rfl rfl rfl rfl rfl rfl) ?_
 refine zab ?_
 refine zah ?_
 refine za rfl (qi rfl vr (ev1 rfl) rfl rfl) ?_
 refine qc rfl (xL rfl vr (ev1 rfl) (ev1 rfl) rfl rfl rfl rfl) ?_
 refine qc rfl (qG rfl qU (ev1 rfl) (ev1 rfl) rfl) ?_
 refine zab ?_
 refine qe ?_
 refine jO (kH [0, 1] [] rfl rfl (G6 (⟨bAt r 0, bAt r 1, us, ky 8 b, ky 8 (b.drop 8), v⟩ : SnM) _) rfl rfl rfl rfl rfl) ?_
 refine qH (rs2 rfl (wB vr rfl rfl rfl) (jB qU rfl rfl rfl)) rfl ?_
 rfl
end Go.Proofs.Ytofklkbfkoliiaa
namespace Go.Proofs.Ytofklkbfkoliiaa
set_option linter.unusedVariables false
set_option linter.unusedSimpArgs false
open Go.RowKit
attribute [local irreducible] jX
theorem QZ {b : List Int} (hi : isB b) (h : 8 ≤ b.length) : b = kN 8 (ky 8 b) ++ b.drop 8 ∧ 0 ≤ ky 8 b ∧ ky 8 b < (256 ^ 8 : Nat) := by
 have e1 := xa hi (w := 8) (by decide) h
 have e2 : tN 8 b = .ok (jP (b.take 8) 0 : Int) (b.drop 8) := by
  unfold tN tkN
  rw [if_neg (by omega)]
 obtain ⟨g1, g2⟩ := (cdN 110 8).bwd b _ _ hi e2
 rw [← e1] at g1 g2
 exact ⟨g1, g2.1, g2.2⟩
theorem Q0 {n : Int} (h : 0 ≤ n ∧ n < (256 ^ 8 : Nat)) {rest : List Int} (hr : isB rest) : ky 8 (kN 8 n ++ rest) = n := by
 have hl := jQ 8 n
 have e1 := xa (l := kN 8 n ++ rest) (isB_app.2 ⟨vZ 8 n, hr⟩) (w := 8) (by decide) (by rw [qap]; omega)
 have e2 := (cdN 110 8).fwd n rest h
 unfold tkN at e2
 rw [if_neg (by rw [qap]; omega)] at e2
 have e3 : ((jP ((kN 8 n ++ rest).take 8) 0 : Nat) : Int) = n := by
  injection e2
 rw [e1, e3]
theorem z2 {v : Vec} : isB (vC v) := by
 unfold vC vY
 intro x hx
 obtain ⟨n, _, h⟩ := List.mem_flatMap.1 hx
 exact vZ 8 n x h
theorem uP (s : SnM) : j0 s = kN 8 s.f ++ (kN 8 s.st ++ (vC s.v ++ kw s.w s.h s.ts)) := by
 unfold j0 QY
 simp [qaQ]
theorem V3 {s : SnM} (hr : jb s.w s.h s.ts = true) (hg : QO s.ts) : isB (j0 s) := by
 rw [uP]
 exact isB_app.2 ⟨vZ _ _, isB_app.2 ⟨vZ _ _, isB_app.2 ⟨z2, UX hr hg⟩⟩⟩
structure RdS (b : List Int) (s : SnM) : Prop where
 ok : uO s = true
 f0 : 0 ≤ s.f
 eq : b = j0 s
 v9 : ∀ i, 9 ≤ i → s.v i = 0
theorem Xh {b : List Int} (hl : b.length ≤ 30000) (hi : isB b) (hno : ∀ s, ¬ RdS b s) : DFun Try.prog 13 [.slf 1 (b).length ((b).flatMap uc8)] [] (.tup [.agg ([.int .i64 0, .int .i64 0, .slice none 0 0, .int .u64 0, .int .u64 0, .int .u64 0, .int .u64 0, .int .u64 0, .int .u64 0, .int .u64 0, .int .u64 0, .int .u64 0, .int .u64 0, .int .u64 0].map D.val), .val (.int .i64 310)]) [] := by
 by_cases h8 : 8 ≤ b.length
 rotate_left
 ·exact Xc b hl hi (by omega)
 by_cases h16 : 16 ≤ b.length
 rotate_left
 ·exact Xd b hl hi h8 (by omega)
 have hld : (b.drop 16).length = b.length - 16 := qaR
 have hk1 : okL (b.drop 16) := ⟨jl hi 16, by omega⟩
 cases hv : vD (b.drop 16) with
 | err e =>
  refine Xe b hl hi h16 e ?_ hv
  rcases Er.V (b.drop 16) e hv with h | h <;> subst h <;> decide
 | ok v r =>
  obtain ⟨hr64, hre, hrl, hvB, hv9, hrv⟩ := wp hk1 hv
  have hir : isB r := by rw [hre]; exact jl (jl hi 16) 64
  by_cases hx : UY r
  ·exact Xf b hl hi h16 v r hv hx
  ·unfold UY at hx
   obtain ⟨h2, hm, h0⟩ := Classical.not_not.1 hx
   obtain ⟨⟨us, q⟩, h0⟩ := Option.isSome_iff_exists.1 h0
   refine Xg b hl hi h16 v r hv _ h2 hm (UZ hm).1 us q h0 fun hb => hno (⟨bAt r 0, bAt r 1, us, ky 8 b, ky 8 (b.drop 8), v⟩ : SnM) ?_
   obtain ⟨hq, hk⟩ := hb
   obtain ⟨g1, g2, g3⟩ := QZ hi h8
   obtain ⟨k1, k2, k3⟩ := QZ (jl hi 8) (show 8 ≤ (b.drop 8).length by rw [qaR]; omega)
   refine ⟨hk, g2, ?_, hv9⟩
   have hc := VZ (by omega) h0
   rw [hq, List.take_length] at hc
   rw [uP]
   show b = kN 8 (ky 8 b) ++ (kN 8 (ky 8 (b.drop 8)) ++ (vC v ++ kw (bAt r 0) (bAt r 1) us))
   rw [← hc, ← hrv]
   have e16 : b.drop 16 = (b.drop 8).drop 8 := by rw [List.drop_drop]
   rw [e16, ← k1]
   exact g1
theorem YT {s : SnM} (hk : uO s = true) (hf : 0 ≤ s.f) (hi : isB (j0 s)) (hv9 : ∀ i, 9 ≤ i → s.v i = 0) : DFun Try.prog 13 [.slf 1 ((j0 s)).length (((j0 s)).flatMap uc8)] [] (.tup [.agg (snL s), .val (.int .i64 0)]) [] := by
 obtain ⟨hr, hfs, hst, hvB⟩ := snOk_iff.1 hk
 obtain ⟨q1, q2, q3, q4⟩ := z1 hr
 have hcv : isB (kw s.w s.h s.ts) := by
  have h1 := hi
  rw [uP] at h1
  exact (isB_app.1 (isB_app.1 (isB_app.1 h1).2).2).2
 obtain ⟨w, h, ts, f, st, v⟩ := s
 dsimp only at *
 have hb1 : (kN 8 f).length = 8 := jQ 8 f
 have hb2 : (kN 8 st).length = 8 := jQ 8 st
 have e0 := uP ⟨w, h, ts, f, st, v⟩
 dsimp only at e0
 have e8 : (j0 ⟨w, h, ts, f, st, v⟩).drop 8 = kN 8 st ++ (vC v ++ kw w h ts) := by rw [e0]; exact List.drop_left' hb1
 have e16 : (j0 ⟨w, h, ts, f, st, v⟩).drop 16 = vC v ++ kw w h ts := by
  rw [show 16 = 8 + 8 from rfl, ← List.drop_drop, e8]
  exact List.drop_left' hb2
 have n1 : ky 8 (j0 ⟨w, h, ts, f, st, v⟩) = f := by
  rw [e0]
  exact Q0 ⟨hf, by rw [e8N]; omega⟩ (isB_app.2 ⟨vZ _ _, isB_app.2 ⟨z2, hcv⟩⟩)
 have n2 : ky 8 ((j0 ⟨w, h, ts, f, st, v⟩).drop 8) = st := by
  rw [e8]
  exact Q0 ⟨by omega, by rw [e8N]; omega⟩ (isB_app.2 ⟨z2, hcv⟩)
 have hv : vD ((j0 ⟨w, h, ts, f, st, v⟩).drop 16) = .ok v (kw w h ts) := by
  rw [e16]
  exact (Ht 110 290).fwd v _ ⟨hvB, hv9⟩
 obtain ⟨g1, g2, g3, _⟩ := Jx hr
 have hbk := VY ka w h ts []
 have en : kw w h ts ++ [] = kw w h ts := qa6 _
 rw [show (w :: h :: qL ka [] ts) ++ [] = kw w h ts ++ [] from rfl, en] at hbk
 have hy := ZV (j0 ⟨w, h, ts, f, st, v⟩) (by omega) hi (by omega) v (kw w h ts) hv ts.length (by omega) g3 g1 ts _ hbk rfl (by rw [n1, n2]; exact hk)
 rw [n1, n2] at hy
 exact hy
end Go.Proofs.Ytofklkbfkoliiaa
namespace Go.Proofs.Ytofklkbfkoliiaa
set_option linter.unusedVariables false
set_option linter.unusedSimpArgs false
open Go.RowKit
attribute [local irreducible] jX jo km j0 y4 kZ gE gK QX uO ky tkN
def wS : SnM := ⟨1, 1, [zT], 3, 5, z9⟩
def V4 : List Int := qax 300 0
def wp0 : PcM := ⟨1, 0, 2, qax 256 0⟩
def wp1 : PcM := ⟨1, 1, 2, qax 44 0⟩
def wx : PcM := ⟨2, 0, 3, qax 256 0⟩
def wq1 : PiM := ⟨1, 2, [[], qax 44 0]⟩
def wq2 : PiM := ⟨1, 2, [qax 256 0, qax 44 0]⟩
def wq3 : PiM := ⟨2, 3, [qax 256 0, [], []]⟩
theorem qac : y4 1 V4 = [wp0, wp1] := by kernel_rfl
theorem ZW : km [wp1, wp1] (zPi, 0) = (wq1, 1) := by kernel_rfl
theorem ZX : jo wq1 wp0 = (0, wq2) := by kernel_rfl
theorem ZY : jo wq2 wx = (0, wq3) := by kernel_rfl
theorem ZZ : jo wq3 wp0 = (241, wq3) := by kernel_rfl
theorem wk_q1 : kZ wq1 = true := by kernel_rfl
theorem wk_q2 : kZ wq2 = true := by kernel_rfl
theorem wk_q3 : kZ wq3 = true := by kernel_rfl
theorem wkn1 : gE wq1 = (0, true) := by kernel_rfl
theorem wkn3 : gE wq3 = (1, true) := by kernel_rfl
theorem wk_w1 : gK wq1 = false := by kernel_rfl
theorem wk_w2 : gK wq2 = true := by kernel_rfl
theorem Xi : uO wS = true := by kernel_rfl
theorem YU : (j0 wS).length = 83 := by kernel_rfl
theorem Z0 : QX wS wS = true := by kernel_rfl
theorem qad : QO wS.ts := by
 intro t ht c hc
 rw [show wS.ts = [zT] from rfl] at ht
 obtain rfl := List.mem_singleton.1 ht
 have : c = zC4 := List.eq_of_mem_replicate (show c ∈ qax 64 zC4 from hc)
 subst this
 unfold C4.rng
 decide
theorem Xj : isB (j0 wS) := V3 (snOk_iff.1 Xi).1 qad
theorem Xk : ∀ s, ¬ RdS ((j0 wS).take 82) s := by
 intro s h
 have h1 := (snOk_iff.1 h.ok).1
 have h2 := z1 h1
 have h3 := congrArg List.length h.eq
 rw [qaN, YU] at h3
 omega
theorem Z1 : DFun Try.prog 5 [.val (.int .u64 1), .slf 1 (V4).length ((V4).flatMap uc8)] [] (.tup [.slm 4 [wp0, wp1].length ([wp0, wp1].flatMap pcD), .val (.int .i64 0)]) [] := by
 have h := HD 1 V4 rfl (by decide) (by decide)
 rw [qac] at h
 exact h
theorem Xl : DFun Try.prog 11 [.agg (piD zPi), .slm 4 [wp1, wp1].length ([wp1, wp1].flatMap pcD)] [] (.tup [.agg (piD wq1), .val (.int .i64 1), .val (.int .i64 0)]) [] := by
 have h := QT zPi YS [wp1, wp1] (by decide)
 rw [ZW] at h
 exact h
theorem Q1 {p q : PiM} {x : PcM} (hp : kZ p = true) (h : jo p x = (0, q)) : DFun Try.prog 6 [.agg (piD p), .agg (pcD x)] [] (.tup [.agg (piD q), .val (.int .i64 0)]) [] := by
 have h1 := QS p (by have := (yC hp).1; omega) (fun b hb => by have := (yC hp).2 b hb; omega) hp x (by rw [h])
 rw [h] at h1
 exact h1
theorem Z2 {p q : PiM} {x : PcM} {e : Int} (hp : kZ p = true) (he : e ≠ 0) (h : jo p x = (e, q)) : DFun Try.prog 6 [.agg (piD p), .agg (pcD x)] [] (.tup [.agg (piD zPi), .val (.int .i64 e)]) [] :=
 QR p (by have := (yC hp).1; omega) (fun b hb => by have := (yC hp).2 b hb; omega) hp x e he (by rw [h])
theorem xf : DFun Try.prog 4 [] [] (.val (.bool true)) [] := by
 refine zan (N := 180) 0 (by kernel_rfl) Try.func4 rfl rfl rfl (by simp only [fr0, qal, qam]; exact rfl) rfl fun s0 hs0 => ?_
 refine zah ?_
 refine zaa 1 rfl ?_
 refine zab ?_
 refine zag ?_
 refine zam 2 ?_
 refine zac ?_
 refine zaj rfl (Yr 0 (1) (.int .u8 0) rfl wU jZ (by kernel_rfl) (by decide) (ev1 rfl) (ev1 rfl) (fun _ => rfl) (fun _ => rfl) rfl (fun _ => by decide)) ?_
 refine za rfl (jW (ps := [(0, .const (.int .i64 1)), (1, .const (.int .i64 1)), (2, .tmp 26)]) rfl fl50 Vx (ec (ev1 rfl) (ec (ev1 rfl) (ec (ev1 rfl) en))) rfl rfl rfl) ?_
 refine za rfl (jW (ps := [(0, .tmp 27), (1, .const (.int .u64 3)), (2, .const (.int .u64 5))]) rfl fl54 xB (ec (ev1 rfl) (ec (ev1 rfl) (ec (ev1 rfl) en))) rfl rfl rfl) ?_
 refine zaj rfl (zao 1 rfl xB rfl) ?_
 refine qc rfl (kL rfl vr (ev1 rfl) (ev1 rfl) rfl rfl rfl rfl) ?_
 refine zab ?_
 refine zag ?_
 refine Yt 1 2 rfl rfl rfl (by simp only [qas, qaw, zad, zaf]; exact rfl) ?_
 refine Zo 1 (show _ = .mix 54 (snL wS) from by kernel_rfl) rfl (by simp only [qas, qaw, zad, zaf]; exact rfl) ?_
 refine zac ?_
 refine za rfl (qi rfl vr (ev1 rfl) rfl rfl) ?_
 refine za rfl (zai [] [] [] rfl (ev1 rfl) (ec (ev1 rfl) en) rfl rfl (V1 wS Xi (by decide)) rfl rfl rfl rfl rfl rfl) ?_
 refine zaa 5 rfl ?_
 refine zab ?_
 refine zag ?_
 refine zam 1 ?_
 refine zac ?_
 refine zaa 1 rfl ?_
 refine za rfl (zai [] [] [] rfl (ev1 rfl) (ec (ev1 rfl) en) rfl rfl (YT Xi (by decide) Xj (fun _ _ => rfl)) rfl rfl rfl rfl rfl rfl) ?_
 refine zaa 3 rfl ?_
 refine zaj rfl (zao 2 rfl xB rfl) ?_
 refine qc rfl (kL rfl vr (ev1 rfl) (ev1 rfl) rfl rfl rfl rfl) ?_
 refine zaa 1 rfl ?_
 refine zab ?_
 refine zah ?_
 refine za rfl ((Qg (300) (.int .u8 0) rfl qK zr5 (ev1 rfl) (ev1 rfl) (fun _ => rfl) (fun _ => rfl) (fun _ => by decide)).cast (d' := .slf 1 (V4).length ((V4).flatMap uc8)) (by kernel_rfl)) ?_
 refine za rfl (zai [] [] [] rfl (ev1 rfl) (ec (ev1 rfl) (ec (ev1 rfl) en)) rfl rfl (Z1) rfl rfl rfl rfl rfl rfl) ?_
 refine zaa 5 rfl ?_
 refine zab ?_
 refine zag ?_
 refine zah ?_
 refine zaa 1 rfl ?_
 refine za rfl (ki rfl (ev1 rfl) (ev1 rfl)) ?_
 refine zaa 1 rfl ?_
 refine zak (qm rfl rfl rfl) rfl rfl rfl (zal (.inl rfl) (ev1 rfl)) ?_
 refine zak (qm rfl rfl rfl) rfl rfl rfl (ki rfl (ev2 rfl) (ev1 rfl)) ?_
 refine za rfl (kC rfl (ev1 rfl) (ev3 rfl id)) ?_
 refine zaa 1 rfl ?_
 refine zak (qm rfl rfl rfl) rfl rfl rfl (zal (.inl rfl) (ev1 rfl)) ?_
 refine zak (qm rfl rfl rfl) rfl rfl rfl (ki rfl (ev2 rfl) (ev1 rfl)) ?_
 refine za rfl (kC rfl (ev1 rfl) (ev3 rfl id)) ?_
 refine zaa 1 rfl ?_
 refine zak (qm rfl rfl rfl) rfl rfl rfl (zal (.inl rfl) (ev1 rfl)) ?_
 refine zak (qm rfl rfl rfl) rfl rfl rfl (qJ rfl qK (ev2 rfl)) ?_
 refine zak (qm rfl rfl rfl) rfl rfl rfl (ki rfl (ev2 rfl) (ev1 rfl)) ?_
 refine za rfl (kC rfl (ev1 rfl) (ev3 rfl id)) ?_
 refine zaa 1 rfl ?_
 refine zak (qm rfl rfl rfl) rfl rfl rfl (zal (.inl rfl) (ev1 rfl)) ?_
 refine zak (qm rfl rfl rfl) rfl rfl rfl (jA rfl wv (ev2 rfl)) ?_
 refine zak (qm rfl rfl rfl) rfl rfl rfl (ki rfl (ev2 rfl) (ev1 rfl)) ?_
 refine za rfl (kC rfl (ev1 rfl) (ev3 rfl id)) ?_
 refine zaa 1 rfl ?_
 refine zak (qm rfl rfl rfl) rfl rfl rfl (qi rfl vr (ev1 rfl) rfl rfl) ?_
 refine zak (qm rfl rfl rfl) rfl rfl rfl (qi rfl vr (ev1 rfl) rfl rfl) ?_
 refine zak (qm rfl rfl rfl) rfl rfl rfl (zai [] [] [] rfl (ev1 rfl) (ec (ev2 rfl) (ec (ev2 rfl) en)) rfl rfl (ZU wS wS (by decide)) rfl rfl rfl rfl rfl rfl) ?_
 refine zak (qm rfl rfl rfl) rfl rfl rfl (kX rfl (ev2 rfl)) ?_
 refine za rfl (kC rfl (ev1 rfl) (ev3 rfl id)) ?_
 refine zab ?_
 refine qj rfl (by rw [YU, Z0]; rfl) ?_
 refine qd ?_
 refine zag ?_
 refine zam 1 ?_
 refine qk [([], []), ([], []), ([], []), ([], []), ([], []), ([], []), ([], []), ([], []), ([], []), ([], []), ([], []), ([], []), ([], []), ([3], [3]), ([3], [3]), ([], []), ([], [])] qW (by kernel_rfl) ?_
 refine zae rfl rfl (jG rfl fl32 wu) ?_
 refine zae rfl rfl (zal (.inl rfl) (ev1 rfl)) ?_
 refine zae rfl rfl (wg (1) (by decide) rfl wv (ev1 rfl) (ev1 rfl) (fun _ => rfl) (by decide) (fun _ => rfl)) ?_
 refine zae rfl rfl (wh rfl j5 (ev1 rfl) rfl rfl) ?_
 refine zae rfl rfl (zal (.inl rfl) (ev1 rfl)) ?_
 refine zae rfl rfl (wg (1) (by decide) rfl wv (ev1 rfl) (ev1 rfl) (fun _ => rfl) (by decide) (fun _ => rfl)) ?_
 refine zae rfl rfl (wh rfl j5 (ev1 rfl) rfl rfl) ?_
 refine zae rfl rfl (Yo (ps := [(0, .tmp 74), (1, .tmp 77)]) rfl wv Ke rfl (ec (ev1 rfl) (ec (ev1 rfl) en)) rfl rfl rfl (by rfl) rfl (by decide) (by decide)) ?_
 refine zae rfl rfl (zai [] [] [] rfl (ev1 rfl) (ec (u5 (ev1 rfl) U6) (ec (ev1 rfl) en)) rfl rfl (Xl) rfl rfl rfl rfl rfl rfl) ?_
 refine zae rfl rfl (zal (.inl rfl) (ev1 rfl)) ?_
 refine zae rfl rfl (jH rfl (ev1 rfl) rfl) ?_
 refine zae rfl rfl (jH rfl (ev1 rfl) rfl) ?_
 refine zae rfl rfl (jH rfl (ev1 rfl) rfl) ?_
 refine yw rfl rfl (zao 3 rfl wu rfl) rfl (by simp only [upd, zad, zaf]; exact rfl) ?_
 refine jY rfl rfl (kL rfl kJ (ev1 rfl) (ev1 rfl) rfl rfl rfl rfl) rfl (by simp only [upd, zad, zaf]; exact rfl) ?_
 refine zae rfl rfl (zal (.inr rfl) (ev1 rfl)) ?_
 refine zae rfl rfl (zal (.inr rfl) (ev1 rfl)) ?_
 refine qu ?_
 refine zah ?_
 refine za rfl (qi rfl kJ (ev1 rfl) rfl rfl) ?_
 refine za rfl (zai [] [] [] rfl (ev1 rfl) (ec (ev1 rfl) en) rfl rfl (YQ wq1 (by decide)) rfl rfl rfl rfl rfl rfl) ?_
 refine zaa 5 rfl ?_
 refine zab ?_
 refine zah ?_
 refine za rfl (qi rfl kJ (ev1 rfl) rfl rfl) ?_
 refine za rfl (zai [] [] [] rfl (ev1 rfl) (ec (ev1 rfl) en) rfl rfl (QU wq1 (by decide) wk_w1) rfl rfl rfl rfl rfl rfl) ?_
 refine zaa 5 rfl ?_
 refine zab ?_
 refine zag ?_
 refine qk [([3], []), ([], []), ([], []), ([], []), ([], []), ([], []), ([], []), ([], []), ([3], [3]), ([], [])] qW (by kernel_rfl) ?_
 refine zae rfl rfl (qi rfl kJ (ev1 rfl) rfl rfl) ?_
 refine zae rfl rfl (zal (.inl rfl) (ev1 rfl)) ?_
 refine zae rfl rfl (wg (0) (by decide) rfl wv (ev1 rfl) (ev1 rfl) (fun _ => rfl) (by decide) (fun _ => rfl)) ?_
 refine zae rfl rfl (wh rfl j5 (ev1 rfl) rfl rfl) ?_
 refine zae rfl rfl (zai [] [] [] rfl (ev1 rfl) (ec (ev1 rfl) (ec (ev1 rfl) en)) rfl rfl (Q1 wk_q1 ZX) rfl rfl rfl rfl rfl rfl) ?_
 refine zae rfl rfl (zal (.inl rfl) (ev1 rfl)) ?_
 refine zae rfl rfl (jH rfl (ev1 rfl) rfl) ?_
 refine zae rfl rfl (jH rfl (ev1 rfl) rfl) ?_
 refine jY rfl rfl (xL rfl kJ (ev1 rfl) (ev1 rfl) rfl rfl rfl rfl) rfl (by simp only [upd, zad, zaf]; exact rfl) ?_
 refine zae rfl rfl (zal (.inr rfl) (ev1 rfl)) ?_
 refine qu ?_
 refine zah ?_
 refine za rfl (qi rfl kJ (ev1 rfl) rfl rfl) ?_
 refine za rfl (zai [] [] [] rfl (ev1 rfl) (ec (ev1 rfl) en) rfl rfl (QV wq2 (by decide) wk_w2 (by decide)) rfl rfl rfl rfl rfl rfl) ?_
 refine zaa 5 rfl ?_
 refine zab ?_
 refine zag ?_
 have hl83 := YU
 refine zam 1 ?_
 refine zac ?_
 refine zaa 1 rfl ?_
 refine za rfl (Y5 (j := 82) rfl qK (ev1 rfl) (ji (ev1 rfl)) (fun _ => by omega) (fun _ => by omega) (fun _ => rfl)) ?_
 refine za rfl (zai [] [] [] rfl (ev1 rfl) (ec (ev1 rfl) en) rfl rfl ((Xh (by rw [qaN]; omega) (UV Xj 82) Xk)) rfl rfl rfl rfl rfl rfl) ?_
 refine zaa 3 rfl ?_
 refine zaj rfl (zao 4 rfl xB rfl) ?_
 refine qc rfl (kL rfl vr (ev1 rfl) (ev1 rfl) rfl rfl rfl rfl) ?_
 refine zaa 1 rfl ?_
 refine zab ?_
 refine zag ?_
 refine zam 1 ?_
 refine qk [([3], []), ([], []), ([], []), ([], []), ([], []), ([], []), ([], []), ([5], [5]), ([5], [5]), ([], [])] qW (by kernel_rfl) ?_
 refine zae rfl rfl (qi rfl kJ (ev1 rfl) rfl rfl) ?_
 refine zae rfl rfl (Qg (256) (.int .u8 0) rfl qK zr5 (ev1 rfl) (ev1 rfl) (fun _ => rfl) (fun _ => rfl) (fun _ => by decide)) ?_
 refine zae rfl rfl (jW (ps := [(0, .const (.int .u64 2)), (2, .const (.int .i64 3)), (3, .tmp 114)]) rfl fl35 Ke (ec (ev1 rfl) (ec (ev1 rfl) (ec (ev1 rfl) en))) rfl rfl rfl) ?_
 refine zae rfl rfl (zai [] [] [] rfl (ev1 rfl) (ec (ev1 rfl) (ec (ev1 rfl) en)) rfl rfl (Q1 wk_q2 ZY) rfl rfl rfl rfl rfl rfl) ?_
 refine zae rfl rfl (zal (.inl rfl) (ev1 rfl)) ?_
 refine zae rfl rfl (jH rfl (ev1 rfl) rfl) ?_
 refine zae rfl rfl (jH rfl (ev1 rfl) rfl) ?_
 refine yw rfl rfl (zao 5 rfl wu rfl) rfl (by simp only [upd, zad, zaf]; exact rfl) ?_
 refine jY rfl rfl (kL rfl kJ (ev1 rfl) (ev1 rfl) rfl rfl rfl rfl) rfl (by simp only [upd, zad, zaf]; exact rfl) ?_
 refine zae rfl rfl (zal (.inr rfl) (ev1 rfl)) ?_
 refine qu ?_
 refine zah ?_
 refine za rfl (qi rfl kJ (ev1 rfl) rfl rfl) ?_
 refine za rfl (zai [] [] [] rfl (ev1 rfl) (ec (ev1 rfl) en) rfl rfl (YQ wq3 (by decide)) rfl rfl rfl rfl rfl rfl) ?_
 refine zaa 5 rfl ?_
 refine zab ?_
 refine zag ?_
 refine zam 1 ?_
 refine qk [([5], []), ([], []), ([], []), ([], []), ([], []), ([], []), ([], []), ([], []), ([6], [6]), ([6], [6]), ([], [])] qW (by kernel_rfl) ?_
 refine zae rfl rfl (qi rfl kJ (ev1 rfl) rfl rfl) ?_
 refine zae rfl rfl (zal (.inl rfl) (ev1 rfl)) ?_
 refine zae rfl rfl (wg (0) (by decide) rfl wv (ev1 rfl) (ev1 rfl) (fun _ => rfl) (by decide) (fun _ => rfl)) ?_
 refine zae rfl rfl (wh rfl j5 (ev1 rfl) rfl rfl) ?_
 refine zae rfl rfl (zai [] [] [] rfl (ev1 rfl) (ec (ev1 rfl) (ec (ev1 rfl) en)) rfl rfl (Z2 wk_q3 (by decide) ZZ) rfl rfl rfl rfl rfl rfl) ?_
 refine zae rfl rfl (zal (.inl rfl) (ev1 rfl)) ?_
 refine zae rfl rfl (jH rfl (ev1 rfl) rfl) ?_
 refine zae rfl rfl (jH rfl (ev1 rfl) rfl) ?_
 refine yw rfl rfl (zao 6 rfl wu rfl) rfl (by simp only [upd, zad, zaf]; exact rfl) ?_
 refine jY rfl rfl (kL rfl kJ (ev1 rfl) (ev1 rfl) rfl rfl rfl rfl) rfl (by simp only [upd, zad, zaf]; exact rfl) ?_
 refine zae rfl rfl (zal (.inr rfl) (ev1 rfl)) ?_
 refine qu ?_
 refine zah ?_
 refine zaa 1 rfl ?_
 refine za rfl (qB rfl (ev1 rfl) (ev1 rfl)) ?_
 refine zaa 1 rfl ?_
 refine zak (qC rfl rfl rfl) rfl rfl rfl (zal (.inl rfl) (ev1 rfl)) ?_
 refine zak (qC rfl rfl rfl) rfl rfl rfl (qB rfl (ev2 rfl) (ev1 rfl)) ?_
 refine za rfl (q9 rfl (ev1 rfl) (ev3 rfl id)) ?_
 refine zaa 1 rfl ?_
 refine zak (qC rfl rfl rfl) rfl rfl rfl (zal (.inl rfl) (ev1 rfl)) ?_
 refine zak (qC rfl rfl rfl) rfl rfl rfl (qB rfl (ev2 rfl) (ev1 rfl)) ?_
 refine za rfl (q9 rfl (ev1 rfl) (ev3 rfl id)) ?_
 refine zaa 1 rfl ?_
 refine zak (qC rfl rfl rfl) rfl rfl rfl (zal (.inl rfl) (ev1 rfl)) ?_
 refine zak (qC rfl rfl rfl) rfl rfl rfl (qB rfl (ev2 rfl) (ev1 rfl)) ?_
 refine za rfl (q9 rfl (ev1 rfl) (ev3 rfl id)) ?_
 refine zaa 1 rfl ?_
 refine zak (qC rfl rfl rfl) rfl rfl rfl (zal (.inl rfl) (ev1 rfl)) ?_
 refine zak (qC rfl rfl rfl) rfl rfl rfl (qB rfl (ev2 rfl) (ev1 rfl)) ?_
 refine za rfl (q9 rfl (ev1 rfl) (ev3 rfl id)) ?_
 refine zaa 1 rfl ?_
 refine zak (qC rfl rfl rfl) rfl rfl rfl (zal (.inl rfl) (ev1 rfl)) ?_
 refine za rfl (q9 rfl (ev1 rfl) (ev3 rfl id)) ?_
 refine zaa 1 rfl ?_
 refine zak (qC rfl rfl rfl) rfl rfl rfl (zal (.inl rfl) (ev1 rfl)) ?_
 refine zak (qC rfl rfl rfl) rfl rfl rfl (kX rfl (ev2 rfl)) ?_
 refine za rfl (q9 rfl (ev1 rfl) (ev3 rfl id)) ?_
 refine zaa 1 rfl ?_
 refine zak (qC rfl rfl rfl) rfl rfl rfl (zal (.inl rfl) (ev1 rfl)) ?_
 refine za rfl (q9 rfl (ev1 rfl) (ev3 rfl id)) ?_
 refine zaa 1 rfl ?_
 refine zak (qC rfl rfl rfl) rfl rfl rfl (zal (.inl rfl) (ev1 rfl)) ?_
 refine zak (qC rfl rfl rfl) rfl rfl rfl (qJ rfl qK (ev2 rfl)) ?_
 refine zak (qC rfl rfl rfl) rfl rfl rfl (qB rfl (ev2 rfl) (ev1 rfl)) ?_
 refine za rfl (q9 rfl (ev1 rfl) (ev3 rfl id)) ?_
 refine zaa 1 rfl ?_
 refine zak (qC rfl rfl rfl) rfl rfl rfl (zal (.inl rfl) (ev1 rfl)) ?_
 refine zak (qC rfl rfl rfl) rfl rfl rfl (qB rfl (ev2 rfl) (ev1 rfl)) ?_
 refine za rfl (q9 rfl (ev1 rfl) (ev3 rfl id)) ?_
 refine zaa 1 rfl ?_
 refine zak (qC rfl rfl rfl) rfl rfl rfl (zal (.inl rfl) (ev1 rfl)) ?_
 refine zak (qC rfl rfl rfl) rfl rfl rfl (qB rfl (ev2 rfl) (ev1 rfl)) ?_
 refine za rfl (q9 rfl (ev1 rfl) (ev3 rfl id)) ?_
 refine zaa 1 rfl ?_
 refine zak (qC rfl rfl rfl) rfl rfl rfl (zal (.inl rfl) (ev1 rfl)) ?_
 refine za rfl (q9 rfl (ev1 rfl) (ev3 rfl id)) ?_
 refine zaa 1 rfl ?_
 refine zak (qC rfl rfl rfl) rfl rfl rfl (zal (.inl rfl) (ev1 rfl)) ?_
 refine zak (qC rfl rfl rfl) rfl rfl rfl (qB rfl (ev2 rfl) (ev1 rfl)) ?_
 refine za rfl (q9 rfl (ev1 rfl) (ev3 rfl id)) ?_
 refine zaa 1 rfl ?_
 refine zab ?_
 refine qe ?_
 refine qH (rs1 rfl (qO rfl)) rfl ?_
 rw [wkn1, wkn3]
 rfl
end Go.Proofs.Ytofklkbfkoliiaa
namespace Go.Proofs.Ytofklkbfkoliiaa
set_option linter.unusedVariables false
set_option linter.unusedSimpArgs false
open Go.RowKit
def g8 (b : List Int) (P : Nat → Bool) : List (List Int) := (qa3 (mnN b)).map fun i => if P i = true then jk b i else []
theorem jS (b : List Int) (P : Nat → Bool) : (g8 b P).length = mnN b := by unfold g8; simp
theorem gV {b : List Int} {P : Nat → Bool} {k : Nat} (hk : k < (g8 b P).length) : (g8 b P)[k] = if P k = true then jk b k else [] := by
 refine (List.getElem_eq_iff hk).2 ?_
 rw [jS] at hk
 unfold g8
 rw [qa5, List.getElem?_range hk]
 rfl
def g9 (P : Nat → Bool) (k : Nat) : Nat → Bool := fun i => P i || (i == k)
theorem G7 {b : List Int} {P : Nat → Bool} {k : Nat} (hk : k < mnN b) : (g8 b P).set k (jk b k) = g8 b (g9 P k) := by
 refine List.ext_getElem (by rw [List.length_set, jS, jS]) fun i h1 h2 => ?_
 rw [gV h2]
 by_cases hi : k = i
 ·subst hi
  rw [List.getElem_set_self]
  unfold g9
  simp
 ·rw [List.getElem_set_ne hi, gV]
  unfold g9
  have : (i == k) = false := by simpa using fun e => hi e.symm
  rw [this, Bool.or_false]
theorem YV {b : List Int} {P Q : Nat → Bool} (h : ∀ i, i < mnN b → P i = Q i) : g8 b P = g8 b Q := by
 unfold g8
 exact List.map_congr_left fun i hi => by rw [h i (qba.1 hi)]
def anyF (b : List Int) (P : Nat → Bool) : Bool := (qa3 (mnN b)).any P
theorem anyF_iff {b : List Int} {P : Nat → Bool} : anyF b P = true ↔ ∃ i, i < mnN b ∧ P i = true := by
 unfold anyF
 rw [List.any_eq_true]
 constructor
 ·rintro ⟨i, h1, h2⟩
  exact ⟨i, qba.1 h1, h2⟩
 ·rintro ⟨i, h1, h2⟩
  exact ⟨i, qba.2 h1, h2⟩
def j6 (sn : Int) (b : List Int) (P : Nat → Bool) : PiM := if anyF b P = true then ⟨sn, mnN b, g8 b P⟩ else zPi
theorem gW {sn : Int} {b : List Int} {P : Nat → Bool} {i : Nat} (hi : i < mnN b) (h : P i = true) : j6 sn b P = ⟨sn, mnN b, g8 b P⟩ := by
 unfold j6
 rw [if_pos (anyF_iff.2 ⟨i, hi, h⟩)]
theorem uQ {sn : Int} {b : List Int} {P : Nat → Bool} (h : ∀ i, i < mnN b → P i = false) : j6 sn b P = zPi := by
 unfold j6
 refine if_neg fun e => ?_
 obtain ⟨i, h1, h2⟩ := anyF_iff.1 e
 rw [h i h1] at h2
 cases h2
theorem z3 {sn : Int} {b : List Int} {P Q : Nat → Bool} (h : ∀ i, i < mnN b → P i = Q i) : j6 sn b P = j6 sn b Q := by
 by_cases e : ∃ i, i < mnN b ∧ P i = true
 ·obtain ⟨i, h1, h2⟩ := e
  rw [gW h1 h2, gW h1 (by rw [← h i h1]; exact h2), YV h]
 ·have e' : ∀ i, i < mnN b → P i = false := fun i hi => by
   cases hp : P i with
   | false => rfl
   | true => exact absurd ⟨i, hi, hp⟩ e
  rw [uQ e', uQ fun i hi => by rw [← h i hi]; exact e' i hi]
theorem z4 {b : List Int} {k : Nat} (hk : k < mnN b) : emp (jk b k) = false := xe (b := b) (List.mem_map.2 ⟨k, qba.2 hk, rfl⟩)
theorem Z3 {b : List Int} {P : Nat → Bool} (h : ∀ i, i < mnN b → P i = false) : g8 b P = qax (mnN b) [] := by
 refine List.eq_replicate_iff.2 ⟨jS b P, fun c hc => ?_⟩
 unfold g8 at hc
 obtain ⟨i, hi, rfl⟩ := List.mem_map.1 hc
 rw [h i (qba.1 hi), if_neg (by decide)]
theorem z5 {sn : Int} (h1 : snB sn = true) : 1 ≤ sn := by
 unfold snB at h1
 rw [qan, decide_eq_true_eq] at h1
 exact h1.1
theorem HE {sn : Int} {b : List Int} (h1 : snB sn = true) (h3 : b.length ≤ 16384) {P : Nat → Bool} {k : Nat} (hk : k < mnN b) (hP : P k = false) : jo (j6 sn b P) (pcK sn b k) = (0, j6 sn b (g9 P k)) := by
 have hok := JC h1 h3 hk
 have hs := z5 h1
 rw [gW (P := g9 P k) hk (by unfold g9; simp)]
 by_cases e : ∃ i, i < mnN b ∧ P i = true
 ·obtain ⟨i, g1, g2⟩ := e
  rw [gW g1 g2, G3 hok rfl rfl]
  ·show (0, (⟨sn, ((mnN b : Nat) : Int), (g8 b P).set ((k : Nat) : Int).toNat (jk b k)⟩ : PiM)) = _
   rw [qaV, G7 hk]
  ·show emp ((g8 b P).getD ((k : Nat) : Int).toNat []) = true
   rw [qaV, qaJ, qak (by rw [jS]; exact hk), gV, hP]
   rfl
 ·have e' : ∀ i, i < mnN b → P i = false := fun i hi => by
   cases hp : P i with
   | false => rfl
   | true => exact absurd ⟨i, hi, hp⟩ e
  rw [uQ e', G2 hok (show (0 : Int) < sn by omega)]
  show (0, (⟨sn, ((mnN b : Nat) : Int), (qax ((mnN b : Nat) : Int).toNat ([] : List Int)).set ((k : Nat) : Int).toNat (jk b k)⟩ : PiM)) = _
  rw [qaV, qaV, ← Z3 e', G7 hk]
theorem Xm {sn : Int} {b : List Int} (h1 : snB sn = true) (h3 : b.length ≤ 16384) {P : Nat → Bool} {k : Nat} (hk : k < mnN b) (hP : P k = true) : jo (j6 sn b P) (pcK sn b k) = (5, j6 sn b P) := by
 have hok := JC h1 h3 hk
 rw [gW hk hP]
 unfold jo
 rw [if_pos hok, if_neg (show ¬ (pcK sn b k).sn < (⟨sn, mnN b, g8 b P⟩ : PiM).sn from Int.lt_irrefl sn), if_neg (show ¬ (⟨sn, mnN b, g8 b P⟩ : PiM).sn < (pcK sn b k).sn from Int.lt_irrefl sn), if_neg (fun e => e rfl), if_neg]
 show ¬ emp ((g8 b P).getD ((k : Nat) : Int).toNat []) = true
 rw [qaV, qaJ, qak (by rw [jS]; exact hk), gV, if_pos hP]
 show ¬ emp (jk b k) = true
 rw [z4 hk]
 decide
theorem uR {sn : Int} {b : List Int} (h1 : snB sn = true) (h3 : b.length ≤ 16384) (P : Nat → Bool) : kZ (j6 sn b P) = true := by
 by_cases e : ∃ i, i < mnN b ∧ P i = true
 ·obtain ⟨j, g1, g2⟩ := e
  rw [gW g1 g2]
  refine piOk_iff.2 (.inr ⟨fun i hi => ?_, ⟨j, by rw [jS]; exact g1, ?_⟩, by rw [jS]⟩)
  ·have hi' : i < mnN b := by rw [jS] at hi; exact hi
   simp only [gV]
   by_cases hp : P i = true
   ·rw [if_pos hp]
    exact .inr (JC h1 h3 hi')
   ·rw [if_neg hp]
    exact .inl rfl
  ·simp only [gV]
   rw [if_pos g2]
   exact z4 g1
 ·rw [uQ fun i hi => by
   cases hp : P i with
   | false => rfl
   | true => exact absurd ⟨i, hi, hp⟩ e]
  exact YS
theorem YW {ps : List (List Int)} : ∀ (i : Int) (k : Nat) (hk : k < ps.length), emp ps[k] = true → ∃ j, ∃ h : j < ps.length, emp ps[j] = true ∧ jK ps i = i + (j : Nat) := by
 induction ps with
 | nil => intro i k hk; simp at hk
 | cons c r ih =>
  intro i k hk he
  rw [jK]
  by_cases hc : emp c = true
  ·rw [if_pos hc]
   exact ⟨0, by simp, hc, by omega⟩
  ·rw [if_neg hc]
   cases k with
   | zero => exact absurd he hc
   | succ k =>
    obtain ⟨j, h1, h2, h3⟩ := ih (i + 1) k (by simpa using hk) he
    exact ⟨j + 1, by simpa using h1, h2, by rw [h3]; omega⟩
theorem Xn {b : List Int} {P : Nat → Bool} (h : ∀ i, i < mnN b → P i = true) : g8 b P = yQ b := by
 unfold g8 yQ
 exact List.map_congr_left fun i hi => by rw [if_pos (h i (qba.1 hi))]
theorem JD {sn mn : Int} {ps : List (List Int)} (h : 1 ≤ sn) : noB ⟨sn, mn, ps⟩ = false := by
 cases e : noB ⟨sn, mn, ps⟩ with
 | false => rfl
 | true =>
  have := congrArg PiM.sn (noB_iff.1 e)
  have hs : sn = 0 := this
  omega
theorem V5 {sn : Int} {b : List Int} (h1 : snB sn = true) (h3 : b.length ≤ 16384) {P : Nat → Bool} {i k : Nat} (hi : i < mnN b) (hP : P i = true) (hk : k < mnN b) (hq : P k = false) : (∃ j, j < mnN b ∧ P j = false ∧ gE (j6 sn b P) = (((j : Nat) : Int), true)) ∧ gK (j6 sn b P) = false := by
 have hok := uR h1 h3 P
 have e := gW (sn := sn) hi hP
 rw [e] at hok ⊢
 obtain ⟨j, g1, g2, g3⟩ := YW (ps := g8 b P) 0 k (by rw [jS]; exact hk) (by rw [gV, if_neg (by rw [hq]; decide)]; rfl)
 have hj : j < mnN b := by rw [jS] at g1; exact g1
 rw [Int.zero_add] at g3
 refine ⟨⟨j, hj, ?_, ?_⟩, ?_⟩
 ·cases hp : P j with
  | false => rfl
  | true =>
   rw [gV, if_pos hp, z4 hj] at g2
   cases g2
 ·unfold gE
  rw [JD (z5 h1), if_neg (by decide), hok, if_pos rfl]
  show (if jK (g8 b P) 0 < 0 then _ else (jK (g8 b P) 0, true)) = _
  rw [g3, if_neg (by omega)]
 ·unfold gK
  rw [JD (z5 h1), Bool.false_or]
  show (!(decide (0 ≤ jK (g8 b P) 0) || _)) = false
  rw [g3, decide_eq_true (by omega)]
  rfl
theorem G8 {sn : Int} {b : List Int} (h1 : snB sn = true) (h2 : 0 < b.length) (h3 : b.length ≤ 16384) {P : Nat → Bool} (h : ∀ i, i < mnN b → P i = true) : gE (j6 sn b P) = (0, false) ∧ j6 sn b P = gF sn b := by
 have e : j6 sn b P = gF sn b := by
  rw [gW (xS h2) (h 0 (xS h2)), Xn h]
  rfl
 refine ⟨?_, e⟩
 rw [e]
 unfold gE gF
 rw [JD (z5 h1), if_neg (by decide)]
 show (if jK (yQ b) 0 < 0 then ((0 : Int), false) else _) = _
 rw [G4 (fun c hc => xe hc) 0, if_pos (by decide)]
def vE (P : Nat → Bool) (n : Nat) : Nat := (qa3 n).countP P
theorem xg (P : Nat → Bool) (n : Nat) : vE P (n + 1) = vE P n + if P n = true then 1 else 0 := by
 unfold vE
 rw [List.range_succ, List.countP_append, List.countP_cons, List.countP_nil, qal]
theorem G9 {P : Nat → Bool} {k : Nat} (hk : P k = false) : ∀ n, vE (g9 P k) n = vE P n + if k < n then 1 else 0
 | 0 => rfl
 | n + 1 => by
  rw [xg, xg, G9 hk n]
  by_cases h : n = k
  ·subst h
   have : g9 P n n = true := by unfold g9; simp
   rw [this, hk, if_neg (Nat.lt_irrefl _), if_pos rfl, if_neg (by decide), if_pos (Nat.lt_succ_self _)]
  ·have e : g9 P k n = P n := by
    unfold g9
    rw [show (n == k) = false by simpa using h, Bool.or_false]
   rw [e]
   have e2 : (if k < n + 1 then 1 else 0) = if k < n then 1 else 0 := by
    by_cases h2 : k < n
    ·rw [if_pos h2, if_pos (show k < n + 1 by omega)]
    ·rw [if_neg h2, if_neg (show ¬ k < n + 1 by omega)]
   rw [e2]
   omega
theorem cntF_all {P : Nat → Bool} {n : Nat} : vE P n = n ↔ ∀ i, i < n → P i = true := by
 unfold vE
 have h := List.countP_eq_length (p := P) (l := qa3 n)
 rw [List.length_range] at h
 rw [h]
 exact ⟨fun g i hi => g i (qba.2 hi), fun g i hi => g i (qba.1 hi)⟩
theorem Z4 (P : Nat → Bool) (n : Nat) : vE P n ≤ n := by
 have h := List.countP_le_length (p := P) (l := qa3 n)
 rwa [List.length_range] at h
theorem Xo {sn : Int} {b : List Int} (h1 : snB sn = true) (h3 : b.length ≤ 16384) (P : Nat → Bool) : ∀ k, k ≤ mnN b → km ((y4 sn b).take k) (j6 sn b P, 0) = (j6 sn b (fun i => P i || decide (i < k)), vE P k)
 | 0, _ => by
  have e : (fun i => P i || decide (i < 0)) = P := by funext i; simp
  rw [e]
  rfl
 | k + 1, hk => by
  have ih := Xo h1 h3 P k (by omega)
  rw [jR _ _ (by rw [gz]; omega), ih, zY, xg]
  dsimp only
  cases hp : P k with
  | true =>
   have hq : (P k || decide (k < k)) = true := by rw [hp]; rfl
   rw [Xm h1 h3 (P := fun i => P i || decide (i < k)) (by omega) hq, if_neg (show ¬ (5 : Int) = 0 by decide), if_pos rfl]
   congr 1
   refine z3 fun i _ => ?_
   by_cases h : i = k
   ·subst h; rw [hp]; rfl
   ·congr 1
    rw [Bool.eq_iff_iff, decide_eq_true_eq, decide_eq_true_eq]
    omega
  | false =>
   have hq : (P k || decide (k < k)) = false := by rw [hp]; simp
   rw [HE h1 h3 (P := fun i => P i || decide (i < k)) (by omega) hq, if_pos rfl, if_neg (by decide)]
   congr 1
   refine z3 fun i _ => ?_
   unfold g9
   rw [Bool.or_assoc]
   congr 1
   rw [Bool.eq_iff_iff, qaA, decide_eq_true_eq, decide_eq_true_eq, beq_iff_eq]
   omega
theorem V6 {sn : Int} {b : List Int} (h1 : snB sn = true) (h2 : 0 < b.length) (h3 : b.length ≤ 16384) (P : Nat → Bool) : km (y4 sn b) (j6 sn b P, 0) = (gF sn b, vE P (mnN b)) := by
 have h := Xo h1 h3 P (mnN b) (qaE _)
 rw [← gz sn b, List.take_length, gz] at h
 rw [h, (G8 h1 h2 h3 (P := fun i => P i || decide (i < mnN b)) fun i hi => by rw [decide_eq_true hi]; exact Bool.or_true _).2]
def inF (ks : List Int) : Nat → Bool := fun i => decide ((i : Int) ∈ ks)
theorem wq (ks : List Int) (k : Nat) : inF (ks ++ [(k : Int)]) = g9 (inF ks) k := by
 funext i
 unfold inF g9
 rw [Bool.eq_iff_iff, qaA, decide_eq_true_eq, decide_eq_true_eq, beq_iff_eq, List.mem_append, List.mem_singleton, Int.natCast_inj]
def jxN (t : Int) (n : Nat) : Nat := ((t % 18446744073709551616) % (n : Int)).toNat
theorem qae (t : Int) {n : Nat} (h : 0 < n) : jxN t n < n ∧ ((jxN t n : Nat) : Int) = (t % 18446744073709551616) % (n : Int) := by
 have h1 := Int.emod_nonneg (t % 18446744073709551616) (show (n : Int) ≠ 0 by omega)
 have h2 := Int.emod_lt_of_pos (t % 18446744073709551616) (show (0 : Int) < n by omega)
 unfold jxN
 omega
theorem Z5 (n : Nat) : vE (inF []) n = 0 := by
 unfold vE
 rw [List.countP_eq_zero]
 intro i _
 unfold inF
 simp
theorem Xp {ks : List Int} {n j : Nat} (hnd : ks.Nodup) (hks : ∀ z ∈ ks, ∃ i : Nat, i < n ∧ z = i) (hct : vE (inF ks) n = ks.length) (hj : j < n) (hm : ¬ (j : Int) ∈ ks) : (ks ++ [(j : Int)]).Nodup ∧ (∀ z ∈ ks ++ [(j : Int)], ∃ i : Nat, i < n ∧ z = i) ∧ vE (inF (ks ++ [(j : Int)])) n = (ks ++ [(j : Int)]).length := by
 refine ⟨?_, fun z hz => ?_, ?_⟩
 ·rw [List.nodup_append]
  refine ⟨hnd, by simp, fun a ha b hb e => ?_⟩
  rw [List.mem_singleton] at hb
  exact hm (hb ▸ e ▸ ha)
 ·rcases List.mem_append.1 hz with h | h
  ·exact hks z h
  ·exact ⟨j, hj, List.mem_singleton.1 h⟩
 ·rw [wq, G9 (show inF ks j = false from by unfold inF; exact decide_eq_false hm), hct, if_pos hj, qap]
  rfl
theorem Xq {sn : Int} {b : List Int} (h1 : snB sn = true) (h3 : b.length ≤ 16384) {ks : List Int} {j : Nat} (hct : vE (inF (ks ++ [(j : Int)])) (mnN b) = (ks ++ [(j : Int)]).length) (hal : ¬ (ks ++ [(j : Int)]).length = mnN b) (hj : j < mnN b) : (∃ i, i < mnN b ∧ g9 (inF ks) j i = false ∧ gE (j6 sn b (g9 (inF ks) j)) = (((i : Nat) : Int), true)) ∧ gK (j6 sn b (g9 (inF ks) j)) = false := by
 rw [← hct, wq] at hal
 have h : ∃ k, k < mnN b ∧ g9 (inF ks) j k = false := by
  refine Classical.byContradiction fun e => hal (cntF_all.2 fun i hi => ?_)
  cases hp : g9 (inF ks) j i with
  | true => rfl
  | false => exact absurd ⟨i, hi, hp⟩ e
 obtain ⟨k, hk, hq⟩ := h
 exact V5 h1 h3 (i := j) hj (by unfold g9; simp) hk hq
end Go.Proofs.Ytofklkbfkoliiaa
namespace Go.Proofs.Ytofklkbfkoliiaa
set_option linter.unusedVariables false
set_option linter.unusedSimpArgs false
open Go.RowKit
attribute [local irreducible] jo km y4 j6 gF kZ gE gK vE inF jxN mnN
theorem it3 : Gf Try.prog 3 = some .i64 := by kernel_rfl
theorem kn36 : knd Try.prog 36 = some .u64 := by kernel_rfl
theorem Ya : mpT Try.prog 33 = some (3, 3) := by kernel_rfl
theorem ty36 : (tyB Try.prog 36).isSome = true := by kernel_rfl
theorem un4 : Try.prog.underlying 4 = some .bool := by kernel_rfl
theorem zv3 : zrV Try.prog 3 = some (.int .i64 0) := by kernel_rfl
theorem Z6 : WkL ([Value.int .u64 0, .int .i64 0, .slice none 0 0].map D.val) (piD zPi) := .cons (.refl _) (.cons (.refl _) (.cons (Wk.slm0 1) .nil))
theorem Xr (sn : Int) (b : List Int) : j6 sn b (inF []) = zPi := uQ fun i _ => by unfold inF; simp
theorem Xs (ks : List Int) (k : Int) : Jl (ks ++ [k]) = Jl ks ++ [D.val (.int .i64 1)] := by
 unfold Jl
 rw [List.flatMap_append]
 rfl
theorem Q2 {ks : List Int} {k : Int} : ∀ s h, BlkOk s h (.mpd (ks ++ [k]) (Jl ks ++ [D.val (.int .i64 1)])) → BlkOk s h (.mpd (ks ++ [k]) (Jl (ks ++ [k]))) := fun s h hk => by
 rw [Xs]
 exact hk
theorem xr {p : PiM} (h : kZ p = true) : p.ps.length ≤ 5000 ∧ ∀ b ∈ p.ps, b.length ≤ 100000 := by
 have := yC h
 exact ⟨by omega, fun b hb => by have := this.2 b hb; omega⟩
theorem qaf {sn : Int} {b : List Int} (h1 : snB sn = true) (h3 : b.length ≤ 16384) {P : Nat → Bool} {k : Nat} (hk : k < mnN b) (hP : P k = false) : DFun Try.prog 6 [.agg (piD (j6 sn b P)), .agg (pcD (pcK sn b k))] [] (.tup [.agg (piD (j6 sn b (g9 P k))), .val (.int .i64 0)]) [] := by
 have e := HE h1 h3 hk hP
 have hok := uR h1 h3 P
 have h := QS (j6 sn b P) (xr hok).1 (xr hok).2 hok (pcK sn b k) (by rw [e])
 rw [e] at h
 exact h
theorem qag {sn : Int} {b : List Int} (h1 : snB sn = true) (h3 : b.length ≤ 16384) {P : Nat → Bool} {k : Nat} (hk : k < mnN b) (hP : P k = true) : DFun Try.prog 6 [.agg (piD (j6 sn b P)), .agg (pcD (pcK sn b k))] [] (.tup [.agg (piD zPi), .val (.int .i64 5)]) [] := by
 have e := Xm h1 h3 hk hP
 have hok := uR h1 h3 P
 exact QR (j6 sn b P) (xr hok).1 (xr hok).2 hok (pcK sn b k) 5 (by decide) (by rw [e])
theorem HF {q : PiM} {r : Int × Bool} (hq : kZ q = true) (h : gE q = r) : DFun Try.prog 8 [.agg (piD q)] [] (.tup [.val (.int .i64 r.1), .val (.bool r.2)]) [] := by
 have g := YQ q (xr hq).1
 rw [h] at g
 exact g
theorem gputs {sn : Int} {b : List Int} (h1 : snB sn = true) (h2 : 0 < b.length) (h3 : b.length ≤ 16384) (P : Nat → Bool) : DFun Try.prog 11 [.agg (piD (j6 sn b P)), .slm 4 (y4 sn b).length ((y4 sn b).flatMap pcD)] [] (.tup [.agg (piD (gF sn b)), .val (.int .i64 (vE P (mnN b) : Nat)), .val (.int .i64 0)]) [] := by
 have hm := YR h3
 have h := QT (j6 sn b P) (uR h1 h3 P) (y4 sn b) (by rw [gz]; omega)
 rw [V6 h1 h2 h3] at h
 exact h
theorem Xt {sn : Int} {b : List Int} {q : PiM} (h1 : snB sn = true) (h2 : 0 < b.length) (h3 : b.length ≤ 16384) (hq : q = gF sn b) : DFun Try.prog 9 [.agg (piD q)] [] (.tup [.slf 1 (b).length ((b).flatMap uc8), .val (.bool true)]) [] := by
 subst hq
 have hok := Xb h1 h2 h3
 have hw : gK (gF sn b) = true := by
  unfold gK
  have e1 : jK (gF sn b).ps 0 = -1 := G4 (fun c hc => xe (show c ∈ yQ b from by unfold gF at hc; exact hc)) 0
  have e2 : noB (gF sn b) = false := by
   unfold gF
   exact JD (z5 h1)
  rw [e1, e2, hok]
  rfl
 have e3 : (gF sn b).ps.flatten = b := by unfold gF; exact G0 b
 have h := QV (gF sn b) (xr hok).1 hw (by rw [e3]; omega)
 rw [e3] at h
 exact h
theorem Z7 (sn : Int) (b : List Int) (ts : List Int) (h1 : (snB sn && decide ((0 : Int) < (b.length : Int))) = false) : DFun Try.prog 3 [.val (.int .u64 sn), .slf 1 (b).length ((b).flatMap uc8), .slf 1 (ts).length ((ts).flatMap inI)] [] (.val (.bool true)) [] := by
 refine zan (N := 151) 0 (by kernel_rfl) Try.func3 rfl rfl rfl (by simp only [fr0, qal, qam]; exact rfl) rfl fun s0 hs0 => ?_
 refine kP (t := 1) rfl fun hl1 hL1 => ?_
 refine kP (t := 2) rfl fun hl2 hL2 => ?_
 refine zah ?_
 refine zaa 1 rfl ?_
 refine zab ?_
 refine zag ?_
 refine zah ?_
 refine za rfl (zai [] [] [] rfl (ev1 rfl) en rfl rfl (xf) rfl rfl rfl rfl rfl rfl) ?_
 refine za rfl (kX rfl (ev1 rfl)) ?_
 refine zab ?_
 refine qj rfl (rfl) ?_
 refine qd ?_
 refine zah ?_
 refine zaa 2 rfl ?_
 refine za rfl (zai [] [] [] rfl (ev1 rfl) (ec (ev1 rfl) (ec (ev1 rfl) en)) rfl rfl (A9 sn b h1) rfl rfl rfl rfl rfl rfl) ?_
 refine zaa 5 rfl ?_
 refine zab ?_
 refine zag ?_
 refine zah ?_
 refine zaa 1 rfl ?_
 refine za rfl (ki rfl (ev1 rfl) (ev1 rfl)) ?_
 refine zab ?_
 refine qR rfl (rfl) ?_
 refine zah ?_
 refine zaa 1 rfl ?_
 refine za rfl (qJ rfl wv (u5 (ev1 rfl) (Wk.slf0 4))) ?_
 refine za rfl (qB rfl (ev1 rfl) (ev1 rfl)) ?_
 refine zaa 1 rfl ?_
 refine zab ?_
 refine qe ?_
 refine qH (rs1 rfl (qO rfl)) rfl ?_
 rfl
theorem Z8 (sn : Int) (b : List Int) (ts : List Int) (h1 : snB sn = true) (h3 : 16384 < b.length) : DFun Try.prog 3 [.val (.int .u64 sn), .slf 1 (b).length ((b).flatMap uc8), .slf 1 (ts).length ((ts).flatMap inI)] [] (.val (.bool true)) [] := by
 refine zan (N := 151) 0 (by kernel_rfl) Try.func3 rfl rfl rfl (by simp only [fr0, qal, qam]; exact rfl) rfl fun s0 hs0 => ?_
 refine kP (t := 1) rfl fun hl1 hL1 => ?_
 refine kP (t := 2) rfl fun hl2 hL2 => ?_
 refine zah ?_
 refine zaa 1 rfl ?_
 refine zab ?_
 refine zag ?_
 refine zah ?_
 refine za rfl (zai [] [] [] rfl (ev1 rfl) en rfl rfl (xf) rfl rfl rfl rfl rfl rfl) ?_
 refine za rfl (kX rfl (ev1 rfl)) ?_
 refine zab ?_
 refine qj rfl (rfl) ?_
 refine qd ?_
 refine zah ?_
 refine zaa 2 rfl ?_
 refine za rfl (zai [] [] [] rfl (ev1 rfl) (ec (ev1 rfl) (ec (ev1 rfl) en)) rfl rfl (qaa sn b h1 h3) rfl rfl rfl rfl rfl rfl) ?_
 refine zaa 5 rfl ?_
 refine zab ?_
 refine zag ?_
 refine zah ?_
 refine zaa 1 rfl ?_
 refine za rfl (ki rfl (ev1 rfl) (ev1 rfl)) ?_
 refine zab ?_
 refine qR rfl (rfl) ?_
 refine zah ?_
 refine zaa 1 rfl ?_
 refine za rfl (qJ rfl wv (u5 (ev1 rfl) (Wk.slf0 4))) ?_
 refine za rfl (qB rfl (ev1 rfl) (ev1 rfl)) ?_
 refine zaa 1 rfl ?_
 refine zab ?_
 refine qe ?_
 refine qH (rs1 rfl (qO rfl)) rfl ?_
 rfl
theorem qah (sn : Int) (b : List Int) (ts : List Int) (hts : ∀ t ∈ ts, -9223372036854775808 ≤ t ∧ t ≤ 9223372036854775807) (h1 : snB sn = true) (h2 : 0 < b.length) (h3 : b.length ≤ 16384) : DFun Try.prog 3 [.val (.int .u64 sn), .slf 1 (b).length ((b).flatMap uc8), .slf 1 (ts).length ((ts).flatMap inI)] [] (.val (.bool true)) [] := by
 have hm64 := YR h3
 have hm0 := xS h2
 have hcl := gz sn b
 have hz80 : (ts.take 80).length ≤ 80 := by rw [qaN]; omega
 refine zan (N := 151) 0 (by kernel_rfl) Try.func3 rfl rfl rfl (by simp only [fr0, qal, qam]; exact rfl) rfl fun s0 hs0 => ?_
 refine kP (t := 1) rfl fun hl1 hL1 => ?_
 refine kP (t := 2) rfl fun hl2 hL2 => ?_
 refine zah ?_
 refine zaa 1 rfl ?_
 refine zab ?_
 refine zag ?_
 refine zah ?_
 refine za rfl (zai [] [] [] rfl (ev1 rfl) en rfl rfl (xf) rfl rfl rfl rfl rfl rfl) ?_
 refine za rfl (kX rfl (ev1 rfl)) ?_
 refine zab ?_
 refine qj rfl (rfl) ?_
 refine qd ?_
 refine zah ?_
 refine zaa 2 rfl ?_
 refine za rfl (zai [] [] [] rfl (ev1 rfl) (ec (ev1 rfl) (ec (ev1 rfl) en)) rfl rfl (HD sn b h1 h2 h3) rfl rfl rfl rfl rfl rfl) ?_
 refine zaa 5 rfl ?_
 refine zab ?_
 refine zag ?_
 refine zah ?_
 refine zaa 1 rfl ?_
 refine za rfl (ki rfl (ev1 rfl) (ev1 rfl)) ?_
 refine zab ?_
 refine qj rfl (rfl) ?_
 refine qd ?_
 refine zag ?_
 refine zam 1 ?_
 refine zac ?_
 refine zaj rfl (zao 0 rfl wu rfl) ?_
 refine zab ?_
 refine zag ?_
 refine kQ 0 yf rfl rfl (by simp only [qas, qaw, zad, zaf, List.map]; exact rfl) ?_
 refine kQ 0 (Jk Z6) rfl rfl (by simp only [qas, qaw, zad, zaf, List.map]; exact rfl) ?_
 refine zam 1 ?_
 refine zac ?_
 refine zaj rfl (Ad 1 rfl rfl) ?_
 refine zaa 1 rfl ?_
 refine zab ?_
 refine zag ?_
 refine zah ?_
 refine zaa 2 rfl ?_
 refine za rfl (qJ rfl vm (ev1 rfl)) ?_
 refine za rfl (zl rfl (ev1 rfl) (ev1 rfl)) ?_
 refine za rfl ((Y5 (j := min ts.length 80) rfl vm (ev1 rfl) (ji (ev1 rfl)) (fun _ => by omega) (fun _ => by omega) (fun _ => rfl)).cast (d' := .slf 1 ((ts.take 80)).length (((ts.take 80)).flatMap inI)) (by rw [AF])) ?_
 refine za rfl (qJ rfl vm (ev1 rfl)) ?_
 refine zaa 1 rfl ?_
 refine zab ?_
 refine qf ?_
 refine qY ⟨hs0, rfl⟩ (α := Nat × List Int) (fun v => [(44, .val (.int .i64 (v.1 : Int)))]) [(1, _), (7, _), (9, _), (10, _), (42, _), (43, _)] (fun v => [(0, .mix 32 (piD (j6 sn b (inF v.2)))), (1, .mpd v.2 (Jl v.2))]) [.hole, .hole] (fun v => v.1 ≤ (ts.take 80).length ∧ v.2.Nodup ∧ (∀ z ∈ v.2, ∃ i : Nat, i < mnN b ∧ z = i) ∧ vE (inF v.2) (mnN b) = v.2.length) (fun v => (ts.take 80).length - v.1) (0, []) [0, 1] (⟨qaZ _, List.nodup_nil, (fun z hz => by cases hz), Z5 _⟩) rfl ⟨rfl, rfl, rfl, rfl, rfl, rfl, trivial⟩ ⟨rfl, trivial⟩ ⟨by rw [Xr]; rfl, by rfl, trivial⟩ ?_
 intro v hx
 simp only [upd, zad, zaf, qas, qaw]
 obtain ⟨k, ks⟩ := v
 obtain ⟨hk, hnd, hks, hct⟩ := hx
 dsimp only at hk hnd hks hct ⊢
 refine zah ?_
 refine za rfl (qI rfl (ev1 rfl) (ev1 rfl)) ?_
 refine zab ?_
 refine zag ?_
 refine qv rfl (fun c3 => ?_) (fun c3 => ?_)
 ·try simp only [decide_eq_true_eq, decide_eq_false_iff_not, beq_iff_eq, bne_iff_ne, beq_eq_false_iff_ne, bne_eq_false_iff_eq, qau, qay, qan, qaA, qar, ne_eq, Decidable.not_not, qaO, qaP] at c3
  refine qd ?_
  refine zag ?_
  refine qf ?_
  refine zag ?_
  obtain ⟨j, hj0⟩ : ∃ j, j = jxN (ts.take 80)[k] (mnN b) := ⟨_, rfl⟩
  obtain ⟨hj, hje⟩ := qae (ts.take 80)[k] hm0
  rw [← hj0] at hj hje
  refine zac ?_
  refine za rfl (qS (j := k) rfl vm (ev1 rfl) (ev1 rfl) (fun _ => rfl) (by decide) (by omega) (by omega)) ?_
  refine za rfl (qV rfl tb3 (ev1 rfl) rfl) ?_
  refine zaa 1 rfl ?_
  refine zab ?_
  refine zag ?_
  refine zam 1 ?_
  refine zac ?_
  refine zaa 2 rfl ?_
  refine za rfl ((xE ty3 kn36 rfl (ev1 rfl)).cast (d' := .val (.int .u64 ((ts.take 80)[k] % 18446744073709551616))) (by rfl)) ?_
  refine zaa 1 rfl ?_
  refine za rfl (jA rfl wv (ev1 rfl)) ?_
  refine za rfl (ju ty3 kn36 rfl (ev1 rfl) (fun _ => IntWalk.u64_in _ (by omega))) ?_
  refine za rfl ((XD rfl (ev1 rfl) (ev1 rfl) (fun _ => ⟨by omega, by omega⟩)).cast (d' := .val (.int .u64 (j : Int))) (by rw [hcl, hje])) ?_
  refine za rfl (ju ty36 kn3 rfl (ev1 rfl) (fun _ => qat _ (by omega))) ?_
  refine za rfl (wg (j) (by decide) rfl wv (ev1 rfl) (ev1 rfl) (fun _ => rfl) (by rw [hcl]; exact hj) (fun _ => rfl)) ?_
  refine za rfl ((wh rfl j5 (ev1 rfl) rfl rfl).cast (d' := .agg (pcD (pcK sn b j))) (by rw [zY]; rfl)) ?_
  refine zaj rfl (zao 2 rfl Ke rfl) ?_
  refine qc rfl (kL rfl j5 (ev1 rfl) (ev1 rfl) rfl rfl rfl rfl) ?_
  refine zab ?_
  refine zag ?_
  by_cases hm : (j : Int) ∈ ks
  ·have hpy : inF ks j = true := by unfold inF; exact decide_eq_true hm
   refine zam 1 ?_
   refine zac ?_
   refine za rfl (qi rfl kJ (ev1 rfl) rfl rfl) ?_
   refine za rfl (qi rfl j5 (ev1 rfl) rfl rfl) ?_
   refine za rfl (zai [] [] [] rfl (ev1 rfl) (ec (ev1 rfl) (ec (ev1 rfl) en)) rfl rfl (qag h1 h3 hj hpy) rfl rfl rfl rfl rfl rfl) ?_
   refine zaa 3 rfl ?_
   refine zaj rfl (zao 3 rfl wu rfl) ?_
   refine qc rfl (kL rfl kJ (ev1 rfl) (ev1 rfl) rfl rfl rfl rfl) ?_
   refine zaa 1 rfl ?_
   refine zab ?_
   refine zag ?_
   refine zah ?_
   refine zaa 1 rfl ?_
   refine za rfl (qa rfl yB (ev1 rfl)) ?_
   refine za rfl ((qb rfl tb3 (ev1 rfl) rfl rfl).cast (d' := .val (.int .i64 (j : Int))) (by rfl)) ?_
   refine za rfl (xO Ya it3 zv3 rfl (ev1 rfl) (ev1 rfl) rfl (fun _ => hnd)) ?_
   refine za rfl (kD rfl (ev1 rfl) (ev1 rfl)) ?_
   refine zab ?_
   refine qR rfl (by rw [if_pos hm]; rfl) ?_
   refine zag ?_
   refine zah ?_
   refine zaa 1 rfl ?_
   refine za rfl (ki rfl (ev1 rfl) (ev1 rfl)) ?_
   refine zab ?_
   refine qj rfl (rfl) ?_
   refine qd ?_
   refine qQ ?_
   refine zac ?_
   refine za rfl (qx rfl (ev1 rfl) (ev1 rfl) (fun _ => qat _ (by omega))) ?_
   refine zaa 1 rfl ?_
   refine zab ?_
   refine ⟨(k + 1, ks), [0, 1], ⟨by dsimp only; omega, hnd, hks, hct⟩, by dsimp only; omega, rfl, ⟨rfl, rfl, rfl, rfl, rfl, rfl, rfl, trivial⟩, ⟨rfl, zy rfl rfl (fun _ => rfl), trivial⟩⟩
  ·have hpn : inF ks j = false := by unfold inF; exact decide_eq_false hm
   have hok2 := uR h1 h3 (g9 (inF ks) j) (sn := sn) (b := b)
   obtain ⟨hnd2, hks2, hct2⟩ := Xp hnd hks hct hj hm
   refine zam 1 ?_
   refine zac ?_
   refine za rfl (qi rfl kJ (ev1 rfl) rfl rfl) ?_
   refine za rfl (qi rfl j5 (ev1 rfl) rfl rfl) ?_
   refine za rfl (zai [] [] [] rfl (ev1 rfl) (ec (ev1 rfl) (ec (ev1 rfl) en)) rfl rfl (qaf h1 h3 hj hpn) rfl rfl rfl rfl rfl rfl) ?_
   refine zaa 3 rfl ?_
   refine zaj rfl (zao 3 rfl wu rfl) ?_
   refine qc rfl (kL rfl kJ (ev1 rfl) (ev1 rfl) rfl rfl rfl rfl) ?_
   refine zaa 1 rfl ?_
   refine zab ?_
   refine zag ?_
   refine zah ?_
   refine zaa 1 rfl ?_
   refine za rfl (qa rfl yB (ev1 rfl)) ?_
   refine za rfl ((qb rfl tb3 (ev1 rfl) rfl rfl).cast (d' := .val (.int .i64 (j : Int))) (by rfl)) ?_
   refine za rfl (xO Ya it3 zv3 rfl (ev1 rfl) (ev1 rfl) rfl (fun _ => hnd)) ?_
   refine za rfl (kD rfl (ev1 rfl) (ev1 rfl)) ?_
   refine zab ?_
   refine qj rfl (by rw [if_neg hm]; rfl) ?_
   refine qd ?_
   refine zag ?_
   refine zah ?_
   refine zaa 1 rfl ?_
   refine za rfl (ki rfl (ev1 rfl) (ev1 rfl)) ?_
   refine zaa 1 rfl ?_
   refine zak (qm rfl rfl rfl) rfl rfl rfl (qi rfl kJ (ev1 rfl) rfl rfl) ?_
   refine zak (qm rfl rfl rfl) rfl rfl rfl (zai [] [] [] rfl (ev1 rfl) (ec (ev2 rfl) en) rfl rfl (zV (j6 sn b (g9 (inF ks) j)) (xr hok2).1) rfl rfl rfl rfl rfl rfl) ?_
   refine zak (qm rfl rfl rfl) rfl rfl rfl (ki rfl (ev2 rfl) (ev1 rfl)) ?_
   refine za rfl (kC rfl (ev1 rfl) (ev3 rfl id)) ?_
   refine zab ?_
   refine qj rfl (by rw [hok2]; rfl) ?_
   refine qd ?_
   refine zag ?_
   refine qk [([], []), ([], []), ([2], []), ([3], []), ([0], [0]), ([1], [1])] qW (by kernel_rfl) ?_
   refine zae rfl rfl (zal (.inl rfl) (ev1 rfl)) ?_
   refine zae rfl rfl (qa rfl yB (ev1 rfl)) ?_
   refine zae rfl rfl ((qb rfl tb3 (ev1 rfl) rfl rfl).cast (d' := .val (.int .i64 (j : Int))) (by rfl)) ?_
   refine zae rfl rfl (qi rfl kJ (ev1 rfl) rfl rfl) ?_
   refine jY rfl rfl (xL rfl kJ (ev1 rfl) (ev1 rfl) rfl rfl rfl rfl) rfl (by simp only [upd, zad, zaf]; exact rfl) ?_
   refine jY rfl rfl (Ae Ya it3 rfl (ev1 rfl) (ev1 rfl) (ev1 rfl) rfl (fun _ => hm)) rfl (by simp only [upd, zad, zaf]; exact rfl) ?_
   refine qu ?_
   refine zag ?_
   by_cases hal : (ks ++ [(j : Int)]).length = mnN b
   ·refine kQ 1 Q2 rfl rfl (by simp only [qas, qaw, zad, zaf, List.map]; exact rfl) ?_
    obtain ⟨hna, hnp⟩ := G8 h1 h2 h3 (P := g9 (inF ks) j) (sn := sn) (by rw [← wq]; exact cntF_all.1 (hct2.trans hal))
    refine zac ?_
    refine za rfl (qi rfl kJ (ev1 rfl) rfl rfl) ?_
    refine za rfl (zai [] [] [] rfl (ev1 rfl) (ec (ev1 rfl) en) rfl rfl (HF hok2 hna) rfl rfl rfl rfl rfl rfl) ?_
    refine zaa 5 rfl ?_
    refine zab ?_
    refine zah ?_
    refine za rfl (qi rfl kJ (ev1 rfl) rfl rfl) ?_
    refine za rfl (zai [] [] [] rfl (ev1 rfl) (ec (ev1 rfl) en) rfl rfl (Xt h1 h2 h3 hnp) rfl rfl rfl rfl rfl rfl) ?_
    refine zaa 5 rfl ?_
    refine zab ?_
    refine zah ?_
    refine zaa 2 rfl ?_
    refine za rfl (zC rfl Ya (ev1 rfl) rfl) ?_
    refine zaa 1 rfl ?_
    refine za rfl (jA rfl wv (ev1 rfl)) ?_
    refine za rfl (qI rfl (ev1 rfl) (ev1 rfl)) ?_
    refine za rfl (Ww rfl un4 (ev1 rfl) (ev1 rfl)) ?_
    refine zaa 1 rfl ?_
    refine zak (qm rfl rfl rfl) rfl rfl rfl (zal (.inl rfl) (ev1 rfl)) ?_
    refine zak (qm rfl rfl rfl) rfl rfl rfl (zal (.inl rfl) (ev1 rfl)) ?_
    refine zak (qm rfl rfl rfl) rfl rfl rfl (Wv rfl un4 (ev2 rfl) (ev2 rfl)) ?_
    refine za rfl (kC rfl (ev1 rfl) (ev3 rfl id)) ?_
    refine zaa 1 rfl ?_
    refine zak (qm rfl rfl rfl) rfl rfl rfl (zal (.inl rfl) (ev1 rfl)) ?_
    refine zak (qm rfl rfl rfl) rfl rfl rfl (zal (.inl rfl) (ev2 rfl)) ?_
    refine zak (kx rfl rfl rfl) rfl rfl rfl (zal (.inl rfl) (ev1 rfl)) ?_
    refine zak (kx rfl rfl rfl) rfl rfl rfl (zal (.inl rfl) (ev1 rfl)) ?_
    refine zak (kx rfl rfl rfl) rfl rfl rfl (xO Ya it3 zv3 rfl (ev2 rfl) (ev2 rfl) rfl (fun _ => hnd2)) ?_
    refine zak (kx rfl rfl rfl) rfl rfl rfl (kD rfl (ev2 rfl) (ev1 rfl)) ?_
    refine zak (qm rfl rfl rfl) rfl rfl rfl (q9 rfl (ev2 rfl) (ev2 rfl)) ?_
    refine za rfl (kC rfl (ev1 rfl) (ev3 rfl id)) ?_
    refine zaa 1 rfl ?_
    refine zak (qm rfl rfl rfl) rfl rfl rfl (zal (.inl rfl) (ev1 rfl)) ?_
    refine zak (qm rfl rfl rfl) rfl rfl rfl (zal (.inl rfl) (ev2 rfl)) ?_
    refine zak (kx rfl rfl rfl) rfl rfl rfl (zal (.inl rfl) (ev1 rfl)) ?_
    refine zak (kx rfl rfl rfl) rfl rfl rfl (zal (.inl rfl) (ev1 rfl)) ?_
    refine zak (kx rfl rfl rfl) rfl rfl rfl (zai [] [] [] rfl (ev1 rfl) (ec (ev2 rfl) (ec (ev2 rfl) en)) rfl rfl (YG b b) rfl rfl rfl rfl rfl rfl) ?_
    refine zak (kx rfl rfl rfl) rfl rfl rfl (kX rfl (ev2 rfl)) ?_
    refine zak (qm rfl rfl rfl) rfl rfl rfl (q9 rfl (ev2 rfl) (ev2 rfl)) ?_
    refine za rfl (kC rfl (ev1 rfl) (ev3 rfl id)) ?_
    refine zab ?_
    refine qj rfl (by rw [hcl, hal]; simp) ?_
    refine qd ?_
    refine zac ?_
    refine za rfl (qx rfl (ev1 rfl) (ev1 rfl) (fun _ => qat _ (by omega))) ?_
    refine zaa 1 rfl ?_
    refine zab ?_
    refine ⟨(k + 1, ks ++ [(j : Int)]), [0, 1], ⟨by dsimp only; omega, hnd2, hks2, hct2⟩, by dsimp only; omega, rfl, ⟨rfl, rfl, rfl, rfl, rfl, rfl, rfl, trivial⟩, ⟨by rw [← wq]; rfl, zy rfl rfl (fun _ => rfl), trivial⟩⟩
   ·refine kQ 1 Q2 rfl rfl (by simp only [qas, qaw, zad, zaf, List.map]; exact rfl) ?_
    obtain ⟨⟨j2, hj2, hp2, hns⟩, hwn⟩ := Xq h1 h3 hct2 hal hj
    have hlt : (ks ++ [(j : Int)]).length < mnN b := by have := Z4 (inF (ks ++ [(j : Int)])) (mnN b); omega
    have hni : ¬ (j2 : Int) ∈ ks ++ [(j : Int)] := by rw [← wq] at hp2; unfold inF at hp2; exact of_decide_eq_false hp2
    refine zac ?_
    refine za rfl (qi rfl kJ (ev1 rfl) rfl rfl) ?_
    refine za rfl (zai [] [] [] rfl (ev1 rfl) (ec (ev1 rfl) en) rfl rfl (HF hok2 hns) rfl rfl rfl rfl rfl rfl) ?_
    refine zaa 5 rfl ?_
    refine zab ?_
    refine zah ?_
    refine za rfl (qi rfl kJ (ev1 rfl) rfl rfl) ?_
    refine za rfl (zai [] [] [] rfl (ev1 rfl) (ec (ev1 rfl) en) rfl rfl (QU (j6 sn b (g9 (inF ks) j)) (xr hok2).1 hwn) rfl rfl rfl rfl rfl rfl) ?_
    refine zaa 5 rfl ?_
    refine zab ?_
    refine zah ?_
    refine zaa 2 rfl ?_
    refine za rfl (zC rfl Ya (ev1 rfl) rfl) ?_
    refine zaa 1 rfl ?_
    refine za rfl (jA rfl wv (ev1 rfl)) ?_
    refine za rfl (qI rfl (ev1 rfl) (ev1 rfl)) ?_
    refine za rfl (Ww rfl un4 (ev1 rfl) (ev1 rfl)) ?_
    refine zaa 1 rfl ?_
    refine zak (qm rfl rfl rfl) rfl rfl rfl (zal (.inl rfl) (ev1 rfl)) ?_
    refine zak (qm rfl rfl rfl) rfl rfl rfl (zal (.inl rfl) (ev1 rfl)) ?_
    refine zak (qm rfl rfl rfl) rfl rfl rfl (Wv rfl un4 (ev2 rfl) (ev2 rfl)) ?_
    refine za rfl (kC rfl (ev1 rfl) (ev3 rfl id)) ?_
    refine zaa 1 rfl ?_
    refine zak (qm rfl rfl rfl) rfl rfl rfl (zal (.inl rfl) (ev1 rfl)) ?_
    refine zak (qm rfl rfl rfl) rfl rfl rfl (zal (.inl rfl) (ev2 rfl)) ?_
    refine zak (kx rfl rfl rfl) rfl rfl rfl (zal (.inl rfl) (ev1 rfl)) ?_
    refine zak (kx rfl rfl rfl) rfl rfl rfl (zal (.inl rfl) (ev1 rfl)) ?_
    refine zak (kx rfl rfl rfl) rfl rfl rfl (xO Ya it3 zv3 rfl (ev2 rfl) (ev2 rfl) rfl (fun _ => hnd2)) ?_
    refine zak (kx rfl rfl rfl) rfl rfl rfl (kD rfl (ev2 rfl) (ev1 rfl)) ?_
    refine zak (qm rfl rfl rfl) rfl rfl rfl (q9 rfl (ev2 rfl) (ev2 rfl)) ?_
    refine za rfl (kC rfl (ev1 rfl) (ev3 rfl id)) ?_
    refine zaa 1 rfl ?_
    refine zak (qm rfl rfl rfl) rfl rfl rfl (zal (.inl rfl) (ev1 rfl)) ?_
    refine zak (qm rfl rfl rfl) rfl rfl rfl (zal (.inl rfl) (ev2 rfl)) ?_
    refine zak (kx rfl rfl rfl) rfl rfl rfl (zal (.inl rfl) (ev1 rfl)) ?_
    refine zak (kx rfl rfl rfl) rfl rfl rfl (zal (.inl rfl) (ev1 rfl)) ?_
    refine zak (kx rfl rfl rfl) rfl rfl rfl (zai [] [] [] rfl (ev1 rfl) (ec (u5 (ev2 rfl) (Wk.slf0 1)) (ec (ev2 rfl) en)) rfl rfl (YG [] b) rfl rfl rfl rfl rfl rfl) ?_
    refine zak (kx rfl rfl rfl) rfl rfl rfl (kX rfl (ev2 rfl)) ?_
    refine zak (qm rfl rfl rfl) rfl rfl rfl (q9 rfl (ev2 rfl) (ev2 rfl)) ?_
    refine za rfl (kC rfl (ev1 rfl) (ev3 rfl id)) ?_
    refine zab ?_
    refine qj rfl (by dsimp only; rw [hcl, decide_eq_true (show (((ks ++ [(j : Int)]).length : Nat) : Int) < ((mnN b : Nat) : Int) from by omega), if_neg hni]; rfl) ?_
    refine qd ?_
    refine zac ?_
    refine za rfl (qx rfl (ev1 rfl) (ev1 rfl) (fun _ => qat _ (by omega))) ?_
    refine zaa 1 rfl ?_
    refine zab ?_
    refine ⟨(k + 1, ks ++ [(j : Int)]), [0, 1], ⟨by dsimp only; omega, hnd2, hks2, hct2⟩, by dsimp only; omega, rfl, ⟨rfl, rfl, rfl, rfl, rfl, rfl, rfl, trivial⟩, ⟨by rw [← wq]; rfl, zy rfl rfl (fun _ => rfl), trivial⟩⟩
 ·try simp only [decide_eq_true_eq, decide_eq_false_iff_not, beq_iff_eq, bne_iff_ne, beq_eq_false_iff_ne, bne_eq_false_iff_eq, qau, qay, qan, qaA, qar, ne_eq, Decidable.not_not, qaO, qaP] at c3
  refine qQ ?_
  refine zag ?_
  refine zam 1 ?_
  refine zac ?_
  refine za rfl (qi rfl kJ (ev1 rfl) rfl rfl) ?_
  refine zaa 1 rfl ?_
  refine za rfl (zai [] [] [] rfl (ev1 rfl) (ec (ev1 rfl) (ec (ev1 rfl) en)) rfl rfl (gputs h1 h2 h3 (inF ks)) rfl rfl rfl rfl rfl rfl) ?_
  refine zaa 4 rfl ?_
  refine zaj rfl (zao 2 rfl wu rfl) ?_
  refine qc rfl (kL rfl kJ (ev1 rfl) (ev1 rfl) rfl rfl rfl rfl) ?_
  refine zaa 2 rfl ?_
  refine zab ?_
  refine zah ?_
  refine za rfl (qi rfl kJ (ev1 rfl) rfl rfl) ?_
  refine za rfl (zai [] [] [] rfl (ev1 rfl) (ec (ev1 rfl) en) rfl rfl (Xt h1 h2 h3 rfl) rfl rfl rfl rfl rfl rfl) ?_
  refine zaa 5 rfl ?_
  refine zab ?_
  refine zah ?_
  refine zaa 1 rfl ?_
  refine za rfl (qB rfl (ev1 rfl) (ev1 rfl)) ?_
  refine zaa 1 rfl ?_
  refine zak (qC rfl rfl rfl) rfl rfl rfl (zal (.inl rfl) (ev1 rfl)) ?_
  refine zak (qC rfl rfl rfl) rfl rfl rfl (zal (.inl rfl) (ev1 rfl)) ?_
  refine zak (qC rfl rfl rfl) rfl rfl rfl (zC rfl Ya (ev2 rfl) rfl) ?_
  refine zak (qC rfl rfl rfl) rfl rfl rfl (qB rfl (ev2 rfl) (ev2 rfl)) ?_
  refine za rfl (q9 rfl (ev1 rfl) (ev3 rfl id)) ?_
  refine zaa 1 rfl ?_
  refine zak (qC rfl rfl rfl) rfl rfl rfl (zal (.inl rfl) (ev1 rfl)) ?_
  refine za rfl (q9 rfl (ev1 rfl) (ev3 rfl id)) ?_
  refine zaa 1 rfl ?_
  refine zak (qC rfl rfl rfl) rfl rfl rfl (zal (.inl rfl) (ev1 rfl)) ?_
  refine zak (qC rfl rfl rfl) rfl rfl rfl (zal (.inl rfl) (ev1 rfl)) ?_
  refine zak (qC rfl rfl rfl) rfl rfl rfl (zai [] [] [] rfl (ev1 rfl) (ec (ev2 rfl) (ec (ev2 rfl) en)) rfl rfl (YG b b) rfl rfl rfl rfl rfl rfl) ?_
  refine za rfl (q9 rfl (ev1 rfl) (ev3 rfl id)) ?_
  refine zaa 1 rfl ?_
  refine zab ?_
  refine qe ?_
  refine qH (rs1 rfl (qO rfl)) rfl ?_
  rw [hct]
  simp
theorem qai (sn : Int) (b : List Int) (ts : List Int) (hts : ∀ t ∈ ts, -9223372036854775808 ≤ t ∧ t ≤ 9223372036854775807) : DFun Try.prog 3 [.val (.int .u64 sn), .slf 1 (b).length ((b).flatMap uc8), .slf 1 (ts).length ((ts).flatMap inI)] [] (.val (.bool true)) [] := by
 cases h : (snB sn && decide ((0 : Int) < (b.length : Int))) with
 | false => exact Z7 sn b ts h
 | true =>
  rw [qan, decide_eq_true_eq] at h
  by_cases h3 : b.length ≤ 16384
  ·exact qah sn b ts hts h.1 (by omega) h3
  ·exact Z8 sn b ts h.1 (by omega)
end Go.Proofs.Ytofklkbfkoliiaa
namespace Go.Proofs.Ytofklkbfkoliiaa
set_option linter.unusedVariables false
set_option linter.unusedSimpArgs false
open Go.RowKit
open Go.ChangeShapes Go.WideShapes Go.ChangeAt Go.Joins Go.Deep
theorem Kf {v : Value} (h : (Prim.int .i64).is v) : ∃ a : Int, (-9223372036854775808 ≤ a ∧ a ≤ 9223372036854775807) ∧ v = .int .i64 a := by
 obtain ⟨x, rfl, w⟩ := h
 exact ⟨x, by simpa [Lit.wf, IntKind.min, IntKind.max, IntKind.signed, IntKind.bits] using w, rfl⟩
theorem Kg {v : Value} (h : (Prim.int .u64).is v) : ∃ a : Int, (0 ≤ a ∧ a ≤ 18446744073709551615) ∧ v = .int .u64 a := by
 obtain ⟨x, rfl, w⟩ := h
 exact ⟨x, by simpa [Lit.wf, IntKind.min, IntKind.max, IntKind.signed, IntKind.bits] using w, rfl⟩
theorem Xu : ∀ cs, yy [.int .i64] cs → ∃ a : Int, (-9223372036854775808 ≤ a ∧ a ≤ 9223372036854775807) ∧ cs = [.int .i64 a]
 | [c0], h => by
  obtain ⟨h0, _⟩ := h
  obtain ⟨a, w, rfl⟩ := Kf h0
  exact ⟨a, w, rfl⟩
 | [], h => by cases h
 | _ :: _ :: _, h => by obtain ⟨_, h⟩ := h; cases h
theorem Z9 {v : Value} (h : (Prim.int .u8).is v) : ∃ a : Int, (0 ≤ a ∧ a ≤ 255) ∧ v = .int .u8 a := by
 obtain ⟨x, rfl, w⟩ := h
 exact ⟨x, by simpa [Lit.wf, IntKind.min, IntKind.max, IntKind.signed, IntKind.bits] using w, rfl⟩
theorem Xv : ∀ cs, yy [.int .u8] cs → ∃ a : Int, (0 ≤ a ∧ a ≤ 255) ∧ cs = uc8 a
 | [c0], h => by
  obtain ⟨h0, _⟩ := h
  obtain ⟨a, w, rfl⟩ := Z9 h0
  exact ⟨a, w, rfl⟩
 | [], h => by cases h
 | _ :: _ :: _, h => by obtain ⟨_, h⟩ := h; cases h
theorem Xw : ∀ cs, yy [.int .i64] cs → ∃ a : Int, (-9223372036854775808 ≤ a ∧ a ≤ 9223372036854775807) ∧ cs = inI a := fun cs h => Xu cs h
end Go.Proofs.Ytofklkbfkoliiaa
