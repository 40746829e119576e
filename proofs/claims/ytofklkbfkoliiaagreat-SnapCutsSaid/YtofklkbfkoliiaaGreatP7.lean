/- snapshots as bytes; snapshots that are read; snapshots, there and back; wakes; arguments that are opened; rows of numbers, opened; One cell of a row of structs of one's own stored; pieces that are the same; the document's pieces; one piece of bytes; bytes cut, in memory of their own; what is cut is one's own. No condition. -/
import Derived.Test.YtofklkbfkoliiaaGreatP6
import Derived.Test.YtofklkbfkoliiaaGreatRows
set_option maxRecDepth 4000
set_option maxHeartbeats 1000000
open List renaming getElem?_eq_some_iff → qas, getElem?_eq_getElem → qat, length_append → qaD, cons_append → qaE, getElem?_set_ne → qaG, nil_append → qaH, getElem?_set_self → qaI, replicate → qaJ, flatMap_cons → qaL, getElem?_append_left → qaN, getElem?_append_right → qaP, length_take → qaT, length_cons → qaU, take_of_length_le → qaX, range → qaY, length_drop → qaZ, take_succ_eq_append_getElem → qa0, append_assoc → qa1, getElem?_drop → qba, getElem?_map → qbb, length_nil → qbd, flatMap_append → qbg, ext_getElem? → qbi, append_nil → qbk
open Nat renaming zero_add → qau, reduceAdd → qaw, le_of_ble_eq_true → qaF, le_trans → qaM, le_refl → qaO, zero_le → qa5, mul_le_mul_right → qa8
open Bool renaming and_eq_true → qav, or_eq_false_iff → qax, not_eq_true' → qaz, not_eq_false' → qaA, or_eq_true → qaB
open Option.some renaming inj → qay
open Go.IntWalk renaming i64_in → qaC
open Int renaming not_lt → qaQ, not_le → qaR
namespace Go.Proofs.YtofklkbfkoliiaaGreat
set_option linter.unusedVariables false
set_option linter.unusedSimpArgs false
open Go.RowKit
attribute [local irreducible] tkN jK ky kS vU kD jd
theorem vO : tyB Tryz.prog 29 = some (true, 14) := by kernel_rfl
abbrev QR (s : SnM) : List (List Int) := [kS 8 s.f ++ kS 8 s.st, vU s.v, kD s.w s.h s.ts]
def gg (s : SnM) : List Int := (QR s).flatten
theorem snOk_iff {s : SnM} : uU s = true ↔ jd s.w s.h s.ts = true ∧ s.f ≤ s.st ∧ s.st ≤ 4611686018427387904 ∧ vB s.v = true := by
 unfold uU
 simp only [qav, decide_eq_true_eq, and_assoc]
theorem G3 (v : Vec) : (vU v).length = 64 := by
 unfold vU
 exact KM (gP v)
theorem qag (v : Vec) (hv : vB v = true) : DFun Tryz.prog 50 [.val (.agg (c9 v).toArray)] [] (.tup [.slf 1 (vU v).length ((vU v).flatMap uc8), .val (.int .i64 0)]) [] := y3 (A2 v hv) rfl
theorem e8N : ((256 ^ 8 : Nat) : Int) = 18446744073709551616 := by decide
theorem zR {s : SnM} (h : jd s.w s.h s.ts = true) : (gg s).length = 80 + (kD s.w s.h s.ts).length ∧ (kD s.w s.h s.ts).length ≤ 5122 ∧ 3 ≤ (kD s.w s.h s.ts).length ∧ s.ts.length ≤ 16 := by
 have g := Jv h
 have g2 := wh g.2.2.1
 have g3 := UO s.w s.h s.ts
 unfold gg QR
 simp only [List.flatten_cons, List.flatten_nil, qaD, j3, G3, qbk]
 omega
theorem VT (s : SnM) (h : uU s = true) (hf : 0 ≤ s.f)  : DFun Tryz.prog 13 [.agg (snL s)] [] (.tup [.slf 1 (gg s).length ((gg s).flatMap uc8), .val (.int .i64 0)]) [] := by
 obtain ⟨hr, hfs, hst, hv⟩ := snOk_iff.1 h
 obtain ⟨k1, k2, k3, k4⟩ := zR hr
 refine qj (N := 35) 0 (by kernel_rfl) Tryz.func13 rfl rfl rfl (by simp only [fr0, qau, qaw]; exact rfl) rfl fun s0 hs0 => ?_
 refine qD rfl hs0 ?_
 refine zam 2 ?_
 refine zac ?_
 refine zaj rfl (qG 0 rfl (ev1 rfl) rfl) ?_
 refine zaa 1 rfl ?_
 refine zaj rfl (zan 1 rfl jO rfl) ?_
 refine zab ?_
 refine qn (l0 := [_]) rfl rfl rfl rfl rfl hs0 ?_
 refine za rfl (qV rfl en (ec (ev1 rfl) en)) ?_
 refine zab ⟨_, _, _, 2, ev1 rfl, qaM hs0 (by decide), rfl, ?_⟩
 have hs1 : s0.M.length ≤ 2 := qaM hs0 (by decide)
 refine qC rfl hs0 ?_
 refine zah ?_
 refine za rfl (qo rfl vO (ev1 rfl) rfl rfl) ?_
 refine za rfl (zai [] [] [] rfl (ev1 rfl) (ec (ev1 rfl) en) rfl rfl (zQ s) rfl rfl rfl rfl rfl rfl) ?_
 refine za rfl (qv rfl (ev1 rfl) (ev1 rfl)) ?_
 refine za rfl (zai [] [] [] rfl (ev1 rfl) (ec (ev1 rfl) (ec (ev1 rfl) en)) rfl rfl (kc _ _ (by rw [h]; rfl)) rfl rfl rfl rfl rfl rfl) ?_
 refine zab ?_
 refine zah ?_
 refine za rfl (xo (ps := [(0, .const (.int .i64 8)), (1, .const (.int .i64 8))]) rfl y6 zr3 rfl (vc (ev1 rfl) (vc (ev1 rfl) vn)) rfl (by decide) (by decide)) ?_
 refine za rfl (qa rfl vM (ev1 rfl)) ?_
 refine za rfl (zaq rfl ku (ev1 rfl) rfl rfl) ?_
 refine za rfl (qa rfl vN (ev1 rfl)) ?_
 refine za rfl (zaq rfl ku (ev1 rfl) rfl rfl) ?_
 refine za rfl (xo (ps := [(0, .tmp 12), (1, .tmp 14)]) rfl KA zr25 rfl (vc (ev1 rfl) (vc (ev1 rfl) vn)) rfl (by decide) (by decide)) ?_
 refine za rfl (zai [] [] [] rfl (ev1 rfl) (ec (ev1 rfl) (ec (ev1 rfl) en)) rfl rfl (Zy s.f s.st (by rw [e8N]; omega) (by rw [e8N]; omega)) rfl rfl rfl rfl rfl rfl) ?_
 refine zaa 2 rfl ?_
 refine za rfl (zai [] [] [] rfl (ev1 rfl) (ec (ev1 rfl) (ec (ev1 rfl) en)) rfl rfl (zL (kS 8 s.f ++ kS 8 s.st)) rfl rfl rfl rfl rfl rfl) ?_
 refine zaa 1 rfl ?_
 refine zab ?_
 refine zae ?_
 refine qg [([], []), ([], []), ([0], []), ([], []), ([], []), ([], []), ([], []), ([], []), ([0], []), ([], []), ([], []), ([], []), ([], []), ([], []), ([], []), ([], []), ([1], [1])] qU (by kernel_rfl) ?_
 refine zag rfl rfl (zal (.inl rfl) (ev1 rfl)) ?_
 refine zag rfl rfl (qa rfl wp (ev1 rfl)) ?_
 refine zag rfl rfl (xP (R := [_, _, _, _, _, _, _, _, _]) rfl gK (ev1 rfl) rfl rfl rfl) ?_
 refine zag rfl rfl (zai [] [] [] rfl (ev1 rfl) (ec (ev1 rfl) en) rfl rfl (qag s.v hv) rfl rfl rfl rfl rfl rfl) ?_
 refine zag rfl rfl (jU rfl (ev1 rfl) rfl) ?_
 refine zag rfl rfl (jU rfl (ev1 rfl) rfl) ?_
 refine zag rfl rfl (zai [] [] [] rfl (ev1 rfl) (ec (ev1 rfl) (ec (ev1 rfl) en)) rfl rfl (zL (vU s.v)) rfl rfl rfl rfl rfl rfl) ?_
 refine zag rfl rfl (qa rfl uf (ev1 rfl)) ?_
 refine zag rfl rfl (uF rfl vT (ev1 rfl) rfl rfl rfl) ?_
 refine zag rfl rfl (zai [] [] [] rfl (ev1 rfl) (ec (ev1 rfl) en) rfl rfl (cnv_f s.w s.h s.ts hr (by omega)) rfl rfl rfl rfl rfl rfl) ?_
 refine zag rfl rfl (jU rfl (ev1 rfl) rfl) ?_
 refine zag rfl rfl (jU rfl (ev1 rfl) rfl) ?_
 refine zag rfl rfl (zai [] [] [] rfl (ev1 rfl) (ec (ev1 rfl) (ec (ev1 rfl) en)) rfl rfl (zL (kD s.w s.h s.ts)) rfl rfl rfl rfl rfl rfl) ?_
 refine zag rfl rfl (Wv (ps := [(0, .tmp 20), (1, .tmp 26), (2, .tmp 32)]) rfl gJ W7 rfl (ec (ev1 rfl) (ec (ev1 rfl) (ec (ev1 rfl) en))) rfl (by decide)) ?_
 refine zag rfl rfl (zai [] [] [] rfl (ev1 rfl) (ec (ev1 rfl) en) rfl rfl (GS (QR s) 3 _ rfl rfl (by show (gg s).length ≤ _; omega)) rfl rfl rfl rfl rfl rfl) ?_
 refine zag rfl rfl (zal (.inr rfl) (ev1 rfl)) ?_
 refine gt rfl rfl (qH rfl qT (ev1 rfl) (ev1 rfl) rfl) rfl (by simp only [upd, zad, zaf]; exact rfl) ?_
 refine qp ?_
 refine qb ?_
 refine jI (kF [1] [] rfl rfl (JA _) rfl rfl rfl rfl rfl) ?_
 refine qx (rs2 rfl (qJ rfl) (js qT rfl rfl rfl)) rfl ?_
 rfl
end Go.Proofs.YtofklkbfkoliiaaGreat
namespace Go.Proofs.YtofklkbfkoliiaaGreat
set_option linter.unusedVariables false
set_option linter.unusedSimpArgs false
open Go.RowKit
attribute [local irreducible] tkN jK ky kS vU kD jd GK gc UQ
theorem fl29 : fdL Tryz.prog 29 = some [(0, 3), (3, 1), (4, 1), (5, 9)] := by kernel_rfl
theorem xF : zrC Tryz.prog 29 = some [.int .i64 0, .int .i64 0, .slice none 0 0, .int .u64 0, .int .u64 0, .int .u64 0, .int .u64 0, .int .u64 0, .int .u64 0, .int .u64 0, .int .u64 0, .int .u64 0, .int .u64 0, .int .u64 0] := by kernel_rfl
theorem G4 (s : SnM) (e : Int) : DDef Tryz.prog 55 [.loc 0 0, .loc 1 0] [.mix 29 (snL s), .flat 34 [.int .i64 e]] none none [.mix 29 (snL s), .flat 34 [.int .i64 e]] := by
 refine uz (dr := .tup []) (t := 2) (N := 6) 2 (by kernel_rfl) Tryz.func55 rfl rfl rfl (by simp only [fr0, qau, qaw]; exact rfl) rfl rfl rfl rfl rfl fun s0 hs0 => ?_
 refine za rfl (zai [] [] [] rfl (ev1 rfl) (ec (ev1 rfl) en) rfl rfl (yI) rfl rfl rfl rfl rfl rfl) ?_
 refine za rfl (ka rfl (ev1 rfl) (ev1 rfl)) ?_
 refine zab ?_
 refine qc rfl (rfl) ?_
 refine zao ?_
 refine qY [0, 1] (qF rfl) rfl rfl ?_ ⟨rfl, rfl, trivial⟩
 rfl
theorem wD (f st : Int) (v : Vec) (e n : Int) (hn : n ≠ 0) : DDef Tryz.prog 55 [.loc 0 0, .loc 1 0] [.mix 29 ([.int .i64 0, .int .i64 0, .slice none 0 0, .int .u64 f, .int .u64 st, .int .u64 (v 0), .int .u64 (v 1), .int .u64 (v 2), .int .u64 (v 3), .int .u64 (v 4), .int .u64 (v 5), .int .u64 (v 6), .int .u64 (v 7), .int .u64 (v 8)].map D.val), .flat 34 [.int .i64 e]] (some (.ifc 125 (.val (.agg #[.int .i64 n])))) none [.mix 29 ([.int .i64 0, .int .i64 0, .slice none 0 0, .int .u64 0, .int .u64 0, .int .u64 0, .int .u64 0, .int .u64 0, .int .u64 0, .int .u64 0, .int .u64 0, .int .u64 0, .int .u64 0, .int .u64 0].map D.val), .flat 34 [.int .i64 310]] := by
 refine uz (dr := .tup []) (t := 2) (N := 6) 2 (by kernel_rfl) Tryz.func55 rfl rfl rfl (by simp only [fr0, qau, qaw]; exact rfl) rfl rfl rfl rfl rfl fun s0 hs0 => ?_
 refine za rfl (zai [] [] [] rfl (ev1 rfl) (ec (ev1 rfl) en) rfl rfl (wB n) rfl rfl rfl rfl rfl rfl) ?_
 refine za rfl (ka rfl (ev1 rfl) (ev1 rfl)) ?_
 refine zab ?_
 refine qM rfl (by simpa using hn) ?_
 refine zac ?_
 refine za rfl (kW rfl fl29 xF) ?_
 refine zar rfl (yp rfl vO (ev1 rfl) (yo (ev1 rfl) (Wk.vagg _)) rfl rfl rfl rfl rfl) ?_
 refine zar rfl (qH rfl qT (ev1 rfl) (ev1 rfl) rfl) ?_
 refine zab ?_
 refine qY [0, 1] (qF rfl) rfl rfl ?_ ⟨rfl, rfl, trivial⟩
 rfl
theorem VU (s : SnM) (e n : Int) (hn : n ≠ 0) : DDef Tryz.prog 55 [.loc 0 0, .loc 1 0] [.mix 29 (snL s), .flat 34 [.int .i64 e]] (some (.ifc 125 (.val (.agg #[.int .i64 n])))) none [.mix 29 ([.int .i64 0, .int .i64 0, .slice none 0 0, .int .u64 0, .int .u64 0, .int .u64 0, .int .u64 0, .int .u64 0, .int .u64 0, .int .u64 0, .int .u64 0, .int .u64 0, .int .u64 0, .int .u64 0].map D.val), .flat 34 [.int .i64 310]] := by
 refine uz (dr := .tup []) (t := 2) (N := 6) 2 (by kernel_rfl) Tryz.func55 rfl rfl rfl (by simp only [fr0, qau, qaw]; exact rfl) rfl rfl rfl rfl rfl fun s0 hs0 => ?_
 refine za rfl (zai [] [] [] rfl (ev1 rfl) (ec (ev1 rfl) en) rfl rfl (wB n) rfl rfl rfl rfl rfl rfl) ?_
 refine za rfl (ka rfl (ev1 rfl) (ev1 rfl)) ?_
 refine zab ?_
 refine qM rfl (by simpa using hn) ?_
 refine zac ?_
 refine za rfl (kW rfl fl29 xF) ?_
 refine zar rfl (yp rfl vO (ev1 rfl) (yo (ev1 rfl) (Wk.vagg _)) rfl rfl rfl rfl rfl) ?_
 refine zar rfl (qH rfl qT (ev1 rfl) (ev1 rfl) rfl) ?_
 refine zab ?_
 refine qY [0, 1] (qF rfl) rfl rfl ?_ ⟨rfl, rfl, trivial⟩
 rfl
theorem wE {l r : List Int} {v : Vec} (hl : okL l) (h : vV l = .ok v r) : 64 ≤ l.length ∧ r = l.drop 64 ∧ r.length = l.length - 64 ∧ vB v = true ∧ (∀ i, 9 ≤ i → v i = 0) ∧ l = vU v ++ r := by
 obtain ⟨h1, h2, h3⟩ := (Hx 110 290).bwd l v r hl.1 h
 have h4 := G3 v
 have h5 : l.length = 64 + r.length := by rw [h1, qaD, h4]
 refine ⟨by omega, ?_, by omega, h2, h3, h1⟩
 rw [h1, List.drop_left' h4]
theorem U9 (b : List Int) (hl : b.length ≤ 30000) (hi : isB b) (h : b.length < 8) : DFun Tryz.prog 17 [.slf 1 (b).length ((b).flatMap uc8)] [] (.tup [.agg ([.int .i64 0, .int .i64 0, .slice none 0 0, .int .u64 0, .int .u64 0, .int .u64 0, .int .u64 0, .int .u64 0, .int .u64 0, .int .u64 0, .int .u64 0, .int .u64 0, .int .u64 0, .int .u64 0].map D.val), .val (.int .i64 310)]) [] := by
 refine qj (N := 57) 0 (by kernel_rfl) Tryz.func17 rfl rfl rfl (by simp only [fr0, qau, qaw]; exact rfl) rfl fun s0 hs0 => ?_
 refine qD rfl hs0 ?_
 refine zam 2 ?_
 refine zac ?_
 refine zaj rfl (zan 0 rfl xF rfl) ?_
 refine zaj rfl (zan 1 rfl jO rfl) ?_
 refine zab ?_
 refine qn (l0 := [_]) rfl rfl rfl rfl rfl hs0 ?_
 refine za rfl (qV rfl en (ec (ev1 rfl) (ec (ev1 rfl) en))) ?_
 refine zab ⟨_, _, _, 2, ev1 rfl, qaM hs0 (by decide), rfl, ?_⟩
 have hs1 : s0.M.length ≤ 2 := qaM hs0 (by decide)
 refine qC rfl hs0 ?_
 refine zae ?_
 refine jf 0 yT rfl rfl (by simp only [qaE, qaH, zad, zaf, List.map]; exact rfl) ?_
 refine zac ?_
 refine zaa 1 rfl ?_
 refine za rfl (zai [] [] [] rfl (ev1 rfl) (ec (ev1 rfl) (ec (ev1 rfl) (ec (ev1 rfl) en))) rfl rfl (QN b (by omega) 0 (by omega) (by omega)) rfl rfl rfl rfl rfl rfl) ?_
 refine zaa 2 rfl ?_
 refine qZ rfl (qE [] [] [] rfl (ev1 rfl) (ec (ev1 rfl) (ec (ev1 rfl) en)) rfl rfl (GR _ _ rfl) rfl rfl rfl rfl rfl rfl) rfl ?_
 refine jI (qL [0, 1] [] rfl rfl rfl (wD _ _ z9 _ _ (by first | decide | assumption)) rfl rfl rfl rfl rfl) ?_
 refine qx (rs2 rfl (we vO rfl rfl rfl) (js qT rfl rfl rfl)) rfl ?_
 rfl
theorem Xa (b : List Int) (hl : b.length ≤ 30000) (hi : isB b) (h8 : 8 ≤ b.length) (h : b.length < 16) : DFun Tryz.prog 17 [.slf 1 (b).length ((b).flatMap uc8)] [] (.tup [.agg ([.int .i64 0, .int .i64 0, .slice none 0 0, .int .u64 0, .int .u64 0, .int .u64 0, .int .u64 0, .int .u64 0, .int .u64 0, .int .u64 0, .int .u64 0, .int .u64 0, .int .u64 0, .int .u64 0].map D.val), .val (.int .i64 310)]) [] := by
 refine qj (N := 57) 0 (by kernel_rfl) Tryz.func17 rfl rfl rfl (by simp only [fr0, qau, qaw]; exact rfl) rfl fun s0 hs0 => ?_
 refine qD rfl hs0 ?_
 refine zam 2 ?_
 refine zac ?_
 refine zaj rfl (zan 0 rfl xF rfl) ?_
 refine zaj rfl (zan 1 rfl jO rfl) ?_
 refine zab ?_
 refine qn (l0 := [_]) rfl rfl rfl rfl rfl hs0 ?_
 refine za rfl (qV rfl en (ec (ev1 rfl) (ec (ev1 rfl) en))) ?_
 refine zab ⟨_, _, _, 2, ev1 rfl, qaM hs0 (by decide), rfl, ?_⟩
 have hs1 : s0.M.length ≤ 2 := qaM hs0 (by decide)
 refine qC rfl hs0 ?_
 refine zae ?_
 refine jf 0 yT rfl rfl (by simp only [qaE, qaH, zad, zaf, List.map]; exact rfl) ?_
 refine zac ?_
 refine zaa 1 rfl ?_
 refine za rfl (zai [] [] [] rfl (ev1 rfl) (ec (ev1 rfl) (ec (ev1 rfl) (ec (ev1 rfl) en))) rfl rfl (yt b (by omega) 0 (by omega)) rfl rfl rfl rfl rfl rfl) ?_
 refine zaa 2 rfl ?_
 refine za rfl (zai [] [] [] rfl (ev1 rfl) (ec (ev1 rfl) (ec (ev1 rfl) en)) rfl rfl (gL (ky 8 b)) rfl rfl rfl rfl rfl rfl) ?_
 refine za rfl (qa rfl vM (ev1 rfl)) ?_
 refine zar rfl (kL rfl ku (ev1 rfl) (ev1 rfl) (fun s v h => by cases h <;> exact ⟨rfl, rfl⟩) rfl (by first | decide | exact qaF rfl | simp)) ?_
 refine zab ?_
 refine zah ?_
 refine zaa 1 rfl ?_
 refine za rfl (zai [] [] [] rfl (ev1 rfl) (ec (ev1 rfl) (ec (ev1 rfl) (ec (ev1 rfl) en))) rfl rfl (QN b (by omega) 8 (by omega) (by omega)) rfl rfl rfl rfl rfl rfl) ?_
 refine zaa 2 rfl ?_
 refine qZ rfl (qE [] [] [] rfl (ev1 rfl) (ec (ev1 rfl) (ec (ev1 rfl) en)) rfl rfl (GR _ _ rfl) rfl rfl rfl rfl rfl rfl) rfl ?_
 refine jI (qL [0, 1] [] rfl rfl rfl (wD _ _ z9 _ _ (by first | decide | assumption)) rfl rfl rfl rfl rfl) ?_
 refine qx (rs2 rfl (we vO rfl rfl rfl) (js qT rfl rfl rfl)) rfl ?_
 rfl
theorem Xb (b : List Int) (hl : b.length ≤ 30000) (hi : isB b) (h16 : 16 ≤ b.length) (e : Int) (he : e ≠ 0) (hv : vV (b.drop 16) = .err e) : DFun Tryz.prog 17 [.slf 1 (b).length ((b).flatMap uc8)] [] (.tup [.agg ([.int .i64 0, .int .i64 0, .slice none 0 0, .int .u64 0, .int .u64 0, .int .u64 0, .int .u64 0, .int .u64 0, .int .u64 0, .int .u64 0, .int .u64 0, .int .u64 0, .int .u64 0, .int .u64 0].map D.val), .val (.int .i64 310)]) [] := by
 have hld : (b.drop 16).length = b.length - 16 := qaZ
 have hk1 : okL (b.drop 16) := ⟨ju hi 16, by omega⟩
 refine qj (N := 57) 0 (by kernel_rfl) Tryz.func17 rfl rfl rfl (by simp only [fr0, qau, qaw]; exact rfl) rfl fun s0 hs0 => ?_
 refine qD rfl hs0 ?_
 refine zam 2 ?_
 refine zac ?_
 refine zaj rfl (zan 0 rfl xF rfl) ?_
 refine zaj rfl (zan 1 rfl jO rfl) ?_
 refine zab ?_
 refine qn (l0 := [_]) rfl rfl rfl rfl rfl hs0 ?_
 refine za rfl (qV rfl en (ec (ev1 rfl) (ec (ev1 rfl) en))) ?_
 refine zab ⟨_, _, _, 2, ev1 rfl, qaM hs0 (by decide), rfl, ?_⟩
 have hs1 : s0.M.length ≤ 2 := qaM hs0 (by decide)
 refine qC rfl hs0 ?_
 refine zae ?_
 refine jf 0 yT rfl rfl (by simp only [qaE, qaH, zad, zaf, List.map]; exact rfl) ?_
 refine zac ?_
 refine zaa 1 rfl ?_
 refine za rfl (zai [] [] [] rfl (ev1 rfl) (ec (ev1 rfl) (ec (ev1 rfl) (ec (ev1 rfl) en))) rfl rfl (yt b (by omega) 0 (by omega)) rfl rfl rfl rfl rfl rfl) ?_
 refine zaa 2 rfl ?_
 refine za rfl (zai [] [] [] rfl (ev1 rfl) (ec (ev1 rfl) (ec (ev1 rfl) en)) rfl rfl (gL (ky 8 b)) rfl rfl rfl rfl rfl rfl) ?_
 refine za rfl (qa rfl vM (ev1 rfl)) ?_
 refine zar rfl (kL rfl ku (ev1 rfl) (ev1 rfl) (fun s v h => by cases h <;> exact ⟨rfl, rfl⟩) rfl (by first | decide | exact qaF rfl | simp)) ?_
 refine zab ?_
 refine zah ?_
 refine zaa 1 rfl ?_
 refine za rfl (zai [] [] [] rfl (ev1 rfl) (ec (ev1 rfl) (ec (ev1 rfl) (ec (ev1 rfl) en))) rfl rfl (yt b (by omega) 8 (by omega)) rfl rfl rfl rfl rfl rfl) ?_
 refine zaa 2 rfl ?_
 refine za rfl (zai [] [] [] rfl (ev1 rfl) (ec (ev1 rfl) (ec (ev1 rfl) en)) rfl rfl (gL (ky 8 (b.drop 8))) rfl rfl rfl rfl rfl rfl) ?_
 refine za rfl (qa rfl vN (ev1 rfl)) ?_
 refine zar rfl (kL rfl ku (ev1 rfl) (ev1 rfl) (fun s v h => by cases h <;> exact ⟨rfl, rfl⟩) rfl (by first | decide | exact qaF rfl | simp)) ?_
 refine zab ?_
 refine zah ?_
 refine zaa 1 rfl ?_
 refine zab ?_
 refine zah ?_
 refine zaa 1 rfl ?_
 refine za rfl (gG (i := 16) rfl qu (ev1 rfl) (kB (ev1 rfl)) (fun _ => by omega) (fun _ => by omega) (fun _ => rfl)) ?_
 refine zaa 1 rfl ?_
 refine zab ?_
 refine zah ?_
 refine zaa 1 rfl ?_
 refine za rfl (zai [] [] [] rfl (ev1 rfl) (ec (ev1 rfl) en) rfl rfl (z6 (b.drop 16) hk1 (by omega) e hv) rfl rfl rfl rfl rfl rfl) ?_
 refine zaa 4 rfl ?_
 refine za rfl (qa rfl wp (ev1 rfl)) ?_
 refine zar rfl (yp rfl gK (ev1 rfl) (yo (ev1 rfl) (Wk.vagg _)) rfl rfl rfl rfl rfl) ?_
 refine zaa 1 rfl ?_
 refine zar rfl (qH rfl qT (ev1 rfl) (ev1 rfl) rfl) ?_
 refine zab ?_
 refine zah ?_
 refine za rfl (qi rfl qT (ev1 rfl) rfl rfl) ?_
 refine za rfl (qv rfl (ev1 rfl) (ev1 rfl)) ?_
 refine za rfl (qi rfl qT (ev1 rfl) rfl rfl) ?_
 refine qZ rfl (qE [] [] [] rfl (ev1 rfl) (ec (ev1 rfl) (ec (ev1 rfl) en)) rfl rfl (j4 _ _ (by simpa using he)) rfl rfl rfl rfl rfl rfl) rfl ?_
 refine jI (qL [0, 1] [] rfl rfl rfl (wD _ _ z9 _ _ (by first | decide | assumption)) rfl rfl rfl rfl rfl) ?_
 refine qx (rs2 rfl (we vO rfl rfl rfl) (js qT rfl rfl rfl)) rfl ?_
 rfl
theorem Xc (b : List Int) (hl : b.length ≤ 30000) (hi : isB b) (h16 : 16 ≤ b.length) (v : Vec) (r : List Int) (hv : vV (b.drop 16) = .ok v r) (hx : UQ r) : DFun Tryz.prog 17 [.slf 1 (b).length ((b).flatMap uc8)] [] (.tup [.agg ([.int .i64 0, .int .i64 0, .slice none 0 0, .int .u64 0, .int .u64 0, .int .u64 0, .int .u64 0, .int .u64 0, .int .u64 0, .int .u64 0, .int .u64 0, .int .u64 0, .int .u64 0, .int .u64 0].map D.val), .val (.int .i64 310)]) [] := by
 have hld : (b.drop 16).length = b.length - 16 := qaZ
 have hk1 : okL (b.drop 16) := ⟨ju hi 16, by omega⟩
 obtain ⟨hr64, hre, hrl, hvB, hv9, hrv⟩ := wE hk1 hv
 have hir : isB r := by rw [hre]; exact ju (ju hi 16) 64
 refine qj (N := 57) 0 (by kernel_rfl) Tryz.func17 rfl rfl rfl (by simp only [fr0, qau, qaw]; exact rfl) rfl fun s0 hs0 => ?_
 refine qD rfl hs0 ?_
 refine zam 2 ?_
 refine zac ?_
 refine zaj rfl (zan 0 rfl xF rfl) ?_
 refine zaj rfl (zan 1 rfl jO rfl) ?_
 refine zab ?_
 refine qn (l0 := [_]) rfl rfl rfl rfl rfl hs0 ?_
 refine za rfl (qV rfl en (ec (ev1 rfl) (ec (ev1 rfl) en))) ?_
 refine zab ⟨_, _, _, 2, ev1 rfl, qaM hs0 (by decide), rfl, ?_⟩
 have hs1 : s0.M.length ≤ 2 := qaM hs0 (by decide)
 refine qC rfl hs0 ?_
 refine zae ?_
 refine jf 0 yT rfl rfl (by simp only [qaE, qaH, zad, zaf, List.map]; exact rfl) ?_
 refine zac ?_
 refine zaa 1 rfl ?_
 refine za rfl (zai [] [] [] rfl (ev1 rfl) (ec (ev1 rfl) (ec (ev1 rfl) (ec (ev1 rfl) en))) rfl rfl (yt b (by omega) 0 (by omega)) rfl rfl rfl rfl rfl rfl) ?_
 refine zaa 2 rfl ?_
 refine za rfl (zai [] [] [] rfl (ev1 rfl) (ec (ev1 rfl) (ec (ev1 rfl) en)) rfl rfl (gL (ky 8 b)) rfl rfl rfl rfl rfl rfl) ?_
 refine za rfl (qa rfl vM (ev1 rfl)) ?_
 refine zar rfl (kL rfl ku (ev1 rfl) (ev1 rfl) (fun s v h => by cases h <;> exact ⟨rfl, rfl⟩) rfl (by first | decide | exact qaF rfl | simp)) ?_
 refine zab ?_
 refine zah ?_
 refine zaa 1 rfl ?_
 refine za rfl (zai [] [] [] rfl (ev1 rfl) (ec (ev1 rfl) (ec (ev1 rfl) (ec (ev1 rfl) en))) rfl rfl (yt b (by omega) 8 (by omega)) rfl rfl rfl rfl rfl rfl) ?_
 refine zaa 2 rfl ?_
 refine za rfl (zai [] [] [] rfl (ev1 rfl) (ec (ev1 rfl) (ec (ev1 rfl) en)) rfl rfl (gL (ky 8 (b.drop 8))) rfl rfl rfl rfl rfl rfl) ?_
 refine za rfl (qa rfl vN (ev1 rfl)) ?_
 refine zar rfl (kL rfl ku (ev1 rfl) (ev1 rfl) (fun s v h => by cases h <;> exact ⟨rfl, rfl⟩) rfl (by first | decide | exact qaF rfl | simp)) ?_
 refine zab ?_
 refine zah ?_
 refine zaa 1 rfl ?_
 refine zab ?_
 refine zah ?_
 refine zaa 1 rfl ?_
 refine za rfl (gG (i := 16) rfl qu (ev1 rfl) (kB (ev1 rfl)) (fun _ => by omega) (fun _ => by omega) (fun _ => rfl)) ?_
 refine zaa 1 rfl ?_
 refine zab ?_
 refine zah ?_
 refine zaa 1 rfl ?_
 refine za rfl (zai [] [] [] rfl (ev1 rfl) (ec (ev1 rfl) en) rfl rfl (y7 (b.drop 16) hk1 (by omega) v r hv (by omega)) rfl rfl rfl rfl rfl rfl) ?_
 refine zaa 4 rfl ?_
 refine za rfl (qa rfl wp (ev1 rfl)) ?_
 refine zar rfl (yp rfl gK (ev1 rfl) (yo (ev1 rfl) (Wk.vagg _)) rfl rfl rfl rfl rfl) ?_
 refine zaa 1 rfl ?_
 refine zar rfl (qH rfl qT (ev1 rfl) (ev1 rfl) rfl) ?_
 refine zab ?_
 refine zah ?_
 refine za rfl (qi rfl qT (ev1 rfl) rfl rfl) ?_
 refine za rfl (qv rfl (ev1 rfl) (ev1 rfl)) ?_
 refine za rfl (qi rfl qT (ev1 rfl) rfl rfl) ?_
 refine za rfl (zai [] [] [] rfl (ev1 rfl) (ec (ev1 rfl) (ec (ev1 rfl) en)) rfl rfl (kc _ _ (rfl)) rfl rfl rfl rfl rfl rfl) ?_
 refine zab ?_
 refine zah ?_
 refine zaa 2 rfl ?_
 refine za rfl ((gG (i := 64) rfl qu (ev1 rfl) (kB (ev1 rfl)) (fun _ => by omega) (fun _ => by omega) (fun _ => rfl)).cast (d' := .slf 1 (r).length ((r).flatMap uc8)) (by rw [hre])) ?_
 refine zaa 1 rfl ?_
 refine zab ?_
 refine zah ?_
 refine zaa 1 rfl ?_
 refine za rfl (zai [] [] [] rfl (ev1 rfl) (ec (ev1 rfl) en) rfl rfl (A3 r (by omega) hir hx) rfl rfl rfl rfl rfl rfl) ?_
 refine zaa 4 rfl ?_
 refine za rfl (qa rfl uf (ev1 rfl)) ?_
 refine zar rfl (yp rfl vT (ev1 rfl) (yo (ev1 rfl) (Wk.vagg _)) rfl rfl rfl rfl rfl) ?_
 refine zaa 1 rfl ?_
 refine zar rfl (qH rfl qT (ev1 rfl) (ev1 rfl) rfl) ?_
 refine zab ?_
 refine zah ?_
 refine za rfl (qi rfl qT (ev1 rfl) rfl rfl) ?_
 refine za rfl (qv rfl (ev1 rfl) (ev1 rfl)) ?_
 refine za rfl (qi rfl qT (ev1 rfl) rfl rfl) ?_
 refine qZ rfl (qE [] [] [] rfl (ev1 rfl) (ec (ev1 rfl) (ec (ev1 rfl) en)) rfl rfl (j4 _ _ (rfl)) rfl rfl rfl rfl rfl rfl) rfl ?_
 refine jI (qL [0, 1] [] rfl rfl rfl (wD _ _ v _ _ (by first | decide | assumption)) rfl rfl rfl rfl rfl) ?_
 refine qx (rs2 rfl (we vO rfl rfl rfl) (js qT rfl rfl rfl)) rfl ?_
 rfl
theorem Xd (b : List Int) (hl : b.length ≤ 30000) (hi : isB b) (h16 : 16 ≤ b.length) (v : Vec) (r : List Int) (hv : vV (b.drop 16) = .ok v r) (n : Nat) (h2 : 0 + 2 ≤ r.length) (hm : gN (bAt r 0) (bAt r 1) = true) (hn : bAt r 0 * bAt r 1 = (n : Int)) (us : List TL) (q : Nat) (h0 : gc q9 r n [] 2 = some (us, q)) (hbad : ¬ (q = r.length ∧ uU (⟨bAt r 0, bAt r 1, us, ky 8 b, ky 8 (b.drop 8), v⟩ : SnM) = true)) : DFun Tryz.prog 17 [.slf 1 (b).length ((b).flatMap uc8)] [] (.tup [.agg ([.int .i64 0, .int .i64 0, .slice none 0 0, .int .u64 0, .int .u64 0, .int .u64 0, .int .u64 0, .int .u64 0, .int .u64 0, .int .u64 0, .int .u64 0, .int .u64 0, .int .u64 0, .int .u64 0].map D.val), .val (.int .i64 310)]) [] := by
 have hld : (b.drop 16).length = b.length - 16 := qaZ
 have hk1 : okL (b.drop 16) := ⟨ju hi 16, by omega⟩
 obtain ⟨hr64, hre, hrl, hvB, hv9, hrv⟩ := wE hk1 hv
 have hir : isB r := by rw [hre]; exact ju (ju hi 16) 64
 refine qj (N := 57) 0 (by kernel_rfl) Tryz.func17 rfl rfl rfl (by simp only [fr0, qau, qaw]; exact rfl) rfl fun s0 hs0 => ?_
 refine qD rfl hs0 ?_
 refine zam 2 ?_
 refine zac ?_
 refine zaj rfl (zan 0 rfl xF rfl) ?_
 refine zaj rfl (zan 1 rfl jO rfl) ?_
 refine zab ?_
 refine qn (l0 := [_]) rfl rfl rfl rfl rfl hs0 ?_
 refine za rfl (qV rfl en (ec (ev1 rfl) (ec (ev1 rfl) en))) ?_
 refine zab ⟨_, _, _, 2, ev1 rfl, qaM hs0 (by decide), rfl, ?_⟩
 have hs1 : s0.M.length ≤ 2 := qaM hs0 (by decide)
 refine qC rfl hs0 ?_
 refine zae ?_
 refine jf 0 yT rfl rfl (by simp only [qaE, qaH, zad, zaf, List.map]; exact rfl) ?_
 refine zac ?_
 refine zaa 1 rfl ?_
 refine za rfl (zai [] [] [] rfl (ev1 rfl) (ec (ev1 rfl) (ec (ev1 rfl) (ec (ev1 rfl) en))) rfl rfl (yt b (by omega) 0 (by omega)) rfl rfl rfl rfl rfl rfl) ?_
 refine zaa 2 rfl ?_
 refine za rfl (zai [] [] [] rfl (ev1 rfl) (ec (ev1 rfl) (ec (ev1 rfl) en)) rfl rfl (gL (ky 8 b)) rfl rfl rfl rfl rfl rfl) ?_
 refine za rfl (qa rfl vM (ev1 rfl)) ?_
 refine zar rfl (kL rfl ku (ev1 rfl) (ev1 rfl) (fun s v h => by cases h <;> exact ⟨rfl, rfl⟩) rfl (by first | decide | exact qaF rfl | simp)) ?_
 refine zab ?_
 refine zah ?_
 refine zaa 1 rfl ?_
 refine za rfl (zai [] [] [] rfl (ev1 rfl) (ec (ev1 rfl) (ec (ev1 rfl) (ec (ev1 rfl) en))) rfl rfl (yt b (by omega) 8 (by omega)) rfl rfl rfl rfl rfl rfl) ?_
 refine zaa 2 rfl ?_
 refine za rfl (zai [] [] [] rfl (ev1 rfl) (ec (ev1 rfl) (ec (ev1 rfl) en)) rfl rfl (gL (ky 8 (b.drop 8))) rfl rfl rfl rfl rfl rfl) ?_
 refine za rfl (qa rfl vN (ev1 rfl)) ?_
 refine zar rfl (kL rfl ku (ev1 rfl) (ev1 rfl) (fun s v h => by cases h <;> exact ⟨rfl, rfl⟩) rfl (by first | decide | exact qaF rfl | simp)) ?_
 refine zab ?_
 refine zah ?_
 refine zaa 1 rfl ?_
 refine zab ?_
 refine zah ?_
 refine zaa 1 rfl ?_
 refine za rfl (gG (i := 16) rfl qu (ev1 rfl) (kB (ev1 rfl)) (fun _ => by omega) (fun _ => by omega) (fun _ => rfl)) ?_
 refine zaa 1 rfl ?_
 refine zab ?_
 refine zah ?_
 refine zaa 1 rfl ?_
 refine za rfl (zai [] [] [] rfl (ev1 rfl) (ec (ev1 rfl) en) rfl rfl (y7 (b.drop 16) hk1 (by omega) v r hv (by omega)) rfl rfl rfl rfl rfl rfl) ?_
 refine zaa 4 rfl ?_
 refine za rfl (qa rfl wp (ev1 rfl)) ?_
 refine zar rfl (yp rfl gK (ev1 rfl) (yo (ev1 rfl) (Wk.vagg _)) rfl rfl rfl rfl rfl) ?_
 refine zaa 1 rfl ?_
 refine zar rfl (qH rfl qT (ev1 rfl) (ev1 rfl) rfl) ?_
 refine zab ?_
 refine zah ?_
 refine za rfl (qi rfl qT (ev1 rfl) rfl rfl) ?_
 refine za rfl (qv rfl (ev1 rfl) (ev1 rfl)) ?_
 refine za rfl (qi rfl qT (ev1 rfl) rfl rfl) ?_
 refine za rfl (zai [] [] [] rfl (ev1 rfl) (ec (ev1 rfl) (ec (ev1 rfl) en)) rfl rfl (kc _ _ (rfl)) rfl rfl rfl rfl rfl rfl) ?_
 refine zab ?_
 refine zah ?_
 refine zaa 2 rfl ?_
 refine za rfl ((gG (i := 64) rfl qu (ev1 rfl) (kB (ev1 rfl)) (fun _ => by omega) (fun _ => by omega) (fun _ => rfl)).cast (d' := .slf 1 (r).length ((r).flatMap uc8)) (by rw [hre])) ?_
 refine zaa 1 rfl ?_
 refine zab ?_
 refine zah ?_
 refine zaa 1 rfl ?_
 refine za rfl (zai [] [] [] rfl (ev1 rfl) (ec (ev1 rfl) en) rfl rfl (Hv r (by omega) hir n h2 hm hn us q h0) rfl rfl rfl rfl rfl rfl) ?_
 refine zaa 4 rfl ?_
 refine za rfl (qa rfl uf (ev1 rfl)) ?_
 refine zar rfl (yp rfl vT (ev1 rfl) (ev1 rfl) rfl rfl rfl rfl rfl) ?_
 refine zaa 1 rfl ?_
 refine zar rfl (qH rfl qT (ev1 rfl) (ev1 rfl) rfl) ?_
 refine zab ?_
 refine zah ?_
 refine za rfl (qi rfl qT (ev1 rfl) rfl rfl) ?_
 refine za rfl (qv rfl (ev1 rfl) (ev1 rfl)) ?_
 refine za rfl (qi rfl qT (ev1 rfl) rfl rfl) ?_
 refine za rfl (zai [] [] [] rfl (ev1 rfl) (ec (ev1 rfl) (ec (ev1 rfl) en)) rfl rfl (kc _ _ (rfl)) rfl rfl rfl rfl rfl rfl) ?_
 refine zab ?_
 refine zah ?_
 refine zaa 2 rfl ?_
 refine za rfl (qt rfl qu (ev1 rfl)) ?_
 refine za rfl (qv rfl (ev1 rfl) (ev1 rfl)) ?_
 refine zaa 1 rfl ?_
 refine zak (qz rfl rfl rfl) rfl rfl rfl (qo rfl vO (ev1 rfl) rfl rfl) ?_
 refine zak (qz rfl rfl rfl) rfl rfl rfl (zai [] [] [] rfl (ev1 rfl) (ec (ev2 rfl) en) rfl rfl (zQ (⟨bAt r 0, bAt r 1, us, ky 8 b, ky 8 (b.drop 8), v⟩ : SnM)) rfl rfl rfl rfl rfl rfl) ?_
 refine zak (qz rfl rfl rfl) rfl rfl rfl (qv rfl (ev2 rfl) (ev1 rfl)) ?_
 refine za rfl (q0 rfl (ev1 rfl) (ev3 rfl id)) ?_
 refine qZ rfl (qE [] [] [] rfl (ev1 rfl) (ec (ev1 rfl) (ec (ev1 rfl) en)) rfl rfl (j4 _ _ (by rw [GW _ (by decide)]; rw [Bool.eq_false_iff]; intro hc; rw [qav] at hc; exact hbad ⟨by have := hc.1; simp at this; omega, hc.2⟩)) rfl rfl rfl rfl rfl rfl) rfl ?_
 refine jI (qL [0, 1] [] rfl rfl rfl (VU (⟨bAt r 0, bAt r 1, us, ky 8 b, ky 8 (b.drop 8), v⟩ : SnM) _ _ (by first | decide | assumption)) rfl rfl rfl rfl rfl) ?_
 refine qx (rs2 rfl (we vO rfl rfl rfl) (js qT rfl rfl rfl)) rfl ?_
 rfl
theorem ZU (b : List Int) (hl : b.length ≤ 30000) (hi : isB b) (h16 : 16 ≤ b.length) (v : Vec) (r : List Int) (hv : vV (b.drop 16) = .ok v r) (n : Nat) (h2 : 0 + 2 ≤ r.length) (hm : gN (bAt r 0) (bAt r 1) = true) (hn : bAt r 0 * bAt r 1 = (n : Int)) (us : List TL) (q : Nat) (h0 : gc q9 r n [] 2 = some (us, q)) (hq : q = r.length) (hk : uU (⟨bAt r 0, bAt r 1, us, ky 8 b, ky 8 (b.drop 8), v⟩ : SnM) = true) : DFun Tryz.prog 17 [.slf 1 (b).length ((b).flatMap uc8)] [] (.tup [.agg (snL (⟨bAt r 0, bAt r 1, us, ky 8 b, ky 8 (b.drop 8), v⟩ : SnM)), .val (.int .i64 0)]) [] := by
 have hld : (b.drop 16).length = b.length - 16 := qaZ
 have hk1 : okL (b.drop 16) := ⟨ju hi 16, by omega⟩
 obtain ⟨hr64, hre, hrl, hvB, hv9, hrv⟩ := wE hk1 hv
 have hir : isB r := by rw [hre]; exact ju (ju hi 16) 64
 refine qj (N := 57) 0 (by kernel_rfl) Tryz.func17 rfl rfl rfl (by simp only [fr0, qau, qaw]; exact rfl) rfl fun s0 hs0 => ?_
 refine qD rfl hs0 ?_
 refine zam 2 ?_
 refine zac ?_
 refine zaj rfl (zan 0 rfl xF rfl) ?_
 refine zaj rfl (zan 1 rfl jO rfl) ?_
 refine zab ?_
 refine qn (l0 := [_]) rfl rfl rfl rfl rfl hs0 ?_
 refine za rfl (qV rfl en (ec (ev1 rfl) (ec (ev1 rfl) en))) ?_
 refine zab ⟨_, _, _, 2, ev1 rfl, qaM hs0 (by decide), rfl, ?_⟩
 have hs1 : s0.M.length ≤ 2 := qaM hs0 (by decide)
 refine qC rfl hs0 ?_
 refine zae ?_
 refine jf 0 yT rfl rfl (by simp only [qaE, qaH, zad, zaf, List.map]; exact rfl) ?_
 refine zac ?_
 refine zaa 1 rfl ?_
 refine za rfl (zai [] [] [] rfl (ev1 rfl) (ec (ev1 rfl) (ec (ev1 rfl) (ec (ev1 rfl) en))) rfl rfl (yt b (by omega) 0 (by omega)) rfl rfl rfl rfl rfl rfl) ?_
 refine zaa 2 rfl ?_
 refine za rfl (zai [] [] [] rfl (ev1 rfl) (ec (ev1 rfl) (ec (ev1 rfl) en)) rfl rfl (gL (ky 8 b)) rfl rfl rfl rfl rfl rfl) ?_
 refine za rfl (qa rfl vM (ev1 rfl)) ?_
 refine zar rfl (kL rfl ku (ev1 rfl) (ev1 rfl) (fun s v h => by cases h <;> exact ⟨rfl, rfl⟩) rfl (by first | decide | exact qaF rfl | simp)) ?_
 refine zab ?_
 refine zah ?_
 refine zaa 1 rfl ?_
 refine za rfl (zai [] [] [] rfl (ev1 rfl) (ec (ev1 rfl) (ec (ev1 rfl) (ec (ev1 rfl) en))) rfl rfl (yt b (by omega) 8 (by omega)) rfl rfl rfl rfl rfl rfl) ?_
 refine zaa 2 rfl ?_
 refine za rfl (zai [] [] [] rfl (ev1 rfl) (ec (ev1 rfl) (ec (ev1 rfl) en)) rfl rfl (gL (ky 8 (b.drop 8))) rfl rfl rfl rfl rfl rfl) ?_
 refine za rfl (qa rfl vN (ev1 rfl)) ?_
 refine zar rfl (kL rfl ku (ev1 rfl) (ev1 rfl) (fun s v h => by cases h <;> exact ⟨rfl, rfl⟩) rfl (by first | decide | exact qaF rfl | simp)) ?_
 refine zab ?_
 refine zah ?_
 refine zaa 1 rfl ?_
 refine zab ?_
 refine zah ?_
 refine zaa 1 rfl ?_
 refine za rfl (gG (i := 16) rfl qu (ev1 rfl) (kB (ev1 rfl)) (fun _ => by omega) (fun _ => by omega) (fun _ => rfl)) ?_
 refine zaa 1 rfl ?_
 refine zab ?_
 refine zah ?_
 refine zaa 1 rfl ?_
 refine za rfl (zai [] [] [] rfl (ev1 rfl) (ec (ev1 rfl) en) rfl rfl (y7 (b.drop 16) hk1 (by omega) v r hv (by omega)) rfl rfl rfl rfl rfl rfl) ?_
 refine zaa 4 rfl ?_
 refine za rfl (qa rfl wp (ev1 rfl)) ?_
 refine zar rfl (yp rfl gK (ev1 rfl) (yo (ev1 rfl) (Wk.vagg _)) rfl rfl rfl rfl rfl) ?_
 refine zaa 1 rfl ?_
 refine zar rfl (qH rfl qT (ev1 rfl) (ev1 rfl) rfl) ?_
 refine zab ?_
 refine zah ?_
 refine za rfl (qi rfl qT (ev1 rfl) rfl rfl) ?_
 refine za rfl (qv rfl (ev1 rfl) (ev1 rfl)) ?_
 refine za rfl (qi rfl qT (ev1 rfl) rfl rfl) ?_
 refine za rfl (zai [] [] [] rfl (ev1 rfl) (ec (ev1 rfl) (ec (ev1 rfl) en)) rfl rfl (kc _ _ (rfl)) rfl rfl rfl rfl rfl rfl) ?_
 refine zab ?_
 refine zah ?_
 refine zaa 2 rfl ?_
 refine za rfl ((gG (i := 64) rfl qu (ev1 rfl) (kB (ev1 rfl)) (fun _ => by omega) (fun _ => by omega) (fun _ => rfl)).cast (d' := .slf 1 (r).length ((r).flatMap uc8)) (by rw [hre])) ?_
 refine zaa 1 rfl ?_
 refine zab ?_
 refine zah ?_
 refine zaa 1 rfl ?_
 refine za rfl (zai [] [] [] rfl (ev1 rfl) (ec (ev1 rfl) en) rfl rfl (Hv r (by omega) hir n h2 hm hn us q h0) rfl rfl rfl rfl rfl rfl) ?_
 refine zaa 4 rfl ?_
 refine za rfl (qa rfl uf (ev1 rfl)) ?_
 refine zar rfl (yp rfl vT (ev1 rfl) (ev1 rfl) rfl rfl rfl rfl rfl) ?_
 refine zaa 1 rfl ?_
 refine zar rfl (qH rfl qT (ev1 rfl) (ev1 rfl) rfl) ?_
 refine zab ?_
 refine zah ?_
 refine za rfl (qi rfl qT (ev1 rfl) rfl rfl) ?_
 refine za rfl (qv rfl (ev1 rfl) (ev1 rfl)) ?_
 refine za rfl (qi rfl qT (ev1 rfl) rfl rfl) ?_
 refine za rfl (zai [] [] [] rfl (ev1 rfl) (ec (ev1 rfl) (ec (ev1 rfl) en)) rfl rfl (kc _ _ (rfl)) rfl rfl rfl rfl rfl rfl) ?_
 refine zab ?_
 refine zah ?_
 refine zaa 2 rfl ?_
 refine za rfl (qt rfl qu (ev1 rfl)) ?_
 refine za rfl (qv rfl (ev1 rfl) (ev1 rfl)) ?_
 refine zaa 1 rfl ?_
 refine zak (qz rfl rfl rfl) rfl rfl rfl (qo rfl vO (ev1 rfl) rfl rfl) ?_
 refine zak (qz rfl rfl rfl) rfl rfl rfl (zai [] [] [] rfl (ev1 rfl) (ec (ev2 rfl) en) rfl rfl (zQ (⟨bAt r 0, bAt r 1, us, ky 8 b, ky 8 (b.drop 8), v⟩ : SnM)) rfl rfl rfl rfl rfl rfl) ?_
 refine zak (qz rfl rfl rfl) rfl rfl rfl (qv rfl (ev2 rfl) (ev1 rfl)) ?_
 refine za rfl (q0 rfl (ev1 rfl) (ev3 rfl id)) ?_
 refine za rfl (zai [] [] [] rfl (ev1 rfl) (ec (ev1 rfl) (ec (ev1 rfl) en)) rfl rfl (kc _ _ (by rw [GW _ (by decide), hk]; simp; omega)) rfl rfl rfl rfl rfl rfl) ?_
 refine zab ?_
 refine zah ?_
 refine za rfl (qo rfl vO (ev1 rfl) rfl rfl) ?_
 refine zar rfl (Jb rfl vO (ev1 rfl) (ev1 rfl) rfl rfl rfl rfl) ?_
 refine zar rfl (qH rfl qT (ev1 rfl) (ev1 rfl) rfl) ?_
 refine zab ?_
 refine qb ?_
 refine jI (kF [0, 1] [] rfl rfl (G4 (⟨bAt r 0, bAt r 1, us, ky 8 b, ky 8 (b.drop 8), v⟩ : SnM) _) rfl rfl rfl rfl rfl) ?_
 refine qx (rs2 rfl (we vO rfl rfl rfl) (js qT rfl rfl rfl)) rfl ?_
 rfl
end Go.Proofs.YtofklkbfkoliiaaGreat
namespace Go.Proofs.YtofklkbfkoliiaaGreat
set_option linter.unusedVariables false
set_option linter.unusedSimpArgs false
open Go.RowKit
attribute [local irreducible] gc
theorem QS {b : List Int} (hi : isB b) (h : 8 ≤ b.length) : b = kS 8 (ky 8 b) ++ b.drop 8 ∧ 0 ≤ ky 8 b ∧ ky 8 b < (256 ^ 8 : Nat) := by
 have e1 := xg hi (w := 8) (by decide) h
 have e2 : tN 8 b = .ok (jK (b.take 8) 0 : Int) (b.drop 8) := by
  unfold tN tkN
  rw [if_neg (by omega)]
 obtain ⟨g1, g2⟩ := (cdN 110 8).bwd b _ _ hi e2
 rw [← e1] at g1 g2
 exact ⟨g1, g2.1, g2.2⟩
theorem QT {n : Int} (h : 0 ≤ n ∧ n < (256 ^ 8 : Nat)) {rest : List Int} (hr : isB rest) : ky 8 (kS 8 n ++ rest) = n := by
 have hl := j3 8 n
 have e1 := xg (l := kS 8 n ++ rest) (isB_app.2 ⟨wm 8 n, hr⟩) (w := 8) (by decide) (by rw [qaD]; omega)
 have e2 := (cdN 110 8).fwd n rest h
 unfold tkN at e2
 rw [if_neg (by rw [qaD]; omega)] at e2
 have e3 : ((jK ((kS 8 n ++ rest).take 8) 0 : Nat) : Int) = n := by
  injection e2
 rw [e1, e3]
theorem zS {v : Vec} : isB (vU v) := by
 unfold vU wl
 intro x hx
 obtain ⟨n, _, h⟩ := List.mem_flatMap.1 hx
 exact wm 8 n x h
theorem uV (s : SnM) : gg s = kS 8 s.f ++ (kS 8 s.st ++ (vU s.v ++ kD s.w s.h s.ts)) := by
 unfold gg QR
 simp [qa1]
theorem VV {s : SnM} (hr : jd s.w s.h s.ts = true) (hg : QM s.ts) : isB (gg s) := by
 rw [uV]
 exact isB_app.2 ⟨wm _ _, isB_app.2 ⟨wm _ _, isB_app.2 ⟨zS, UP hr hg⟩⟩⟩
structure RdS (b : List Int) (s : SnM) : Prop where
 ok : uU s = true
 f0 : 0 ≤ s.f
 eq : b = gg s
 v9 : ∀ i, 9 ≤ i → s.v i = 0
theorem Xe {b : List Int} (hl : b.length ≤ 30000) (hi : isB b) (hno : ∀ s, ¬ RdS b s) : DFun Tryz.prog 17 [.slf 1 (b).length ((b).flatMap uc8)] [] (.tup [.agg ([.int .i64 0, .int .i64 0, .slice none 0 0, .int .u64 0, .int .u64 0, .int .u64 0, .int .u64 0, .int .u64 0, .int .u64 0, .int .u64 0, .int .u64 0, .int .u64 0, .int .u64 0, .int .u64 0].map D.val), .val (.int .i64 310)]) [] := by
 by_cases h8 : 8 ≤ b.length
 rotate_left
 ·exact U9 b hl hi (by omega)
 by_cases h16 : 16 ≤ b.length
 rotate_left
 ·exact Xa b hl hi h8 (by omega)
 have hld : (b.drop 16).length = b.length - 16 := qaZ
 have hk1 : okL (b.drop 16) := ⟨ju hi 16, by omega⟩
 cases hv : vV (b.drop 16) with
 | err e =>
  refine Xb b hl hi h16 e ?_ hv
  rcases Er.V (b.drop 16) e hv with h | h <;> subst h <;> decide
 | ok v r =>
  obtain ⟨hr64, hre, hrl, hvB, hv9, hrv⟩ := wE hk1 hv
  have hir : isB r := by rw [hre]; exact ju (ju hi 16) 64
  by_cases hx : UQ r
  ·exact Xc b hl hi h16 v r hv hx
  ·unfold UQ at hx
   obtain ⟨h2, hm, h0⟩ := Classical.not_not.1 hx
   obtain ⟨⟨us, q⟩, h0⟩ := Option.isSome_iff_exists.1 h0
   refine Xd b hl hi h16 v r hv _ h2 hm (UR hm).1 us q h0 fun hb => hno (⟨bAt r 0, bAt r 1, us, ky 8 b, ky 8 (b.drop 8), v⟩ : SnM) ?_
   obtain ⟨hq, hk⟩ := hb
   obtain ⟨g1, g2, g3⟩ := QS hi h8
   obtain ⟨k1, k2, k3⟩ := QS (ju hi 8) (show 8 ≤ (b.drop 8).length by rw [qaZ]; omega)
   refine ⟨hk, g2, ?_, hv9⟩
   have hc := VQ (by omega) h0
   rw [hq, List.take_length] at hc
   rw [uV]
   show b = kS 8 (ky 8 b) ++ (kS 8 (ky 8 (b.drop 8)) ++ (vU v ++ kD (bAt r 0) (bAt r 1) us))
   rw [← hc, ← hrv]
   have e16 : b.drop 16 = (b.drop 8).drop 8 := by rw [List.drop_drop]
   rw [e16, ← k1]
   exact g1
theorem YW {s : SnM} (hk : uU s = true) (hf : 0 ≤ s.f) (hi : isB (gg s)) (hv9 : ∀ i, 9 ≤ i → s.v i = 0) : DFun Tryz.prog 17 [.slf 1 ((gg s)).length (((gg s)).flatMap uc8)] [] (.tup [.agg (snL s), .val (.int .i64 0)]) [] := by
 obtain ⟨hr, hfs, hst, hvB⟩ := snOk_iff.1 hk
 obtain ⟨q1, q2, q3, q4⟩ := zR hr
 have hcv : isB (kD s.w s.h s.ts) := by
  have h1 := hi
  rw [uV] at h1
  exact (isB_app.1 (isB_app.1 (isB_app.1 h1).2).2).2
 obtain ⟨w, h, ts, f, st, v⟩ := s
 dsimp only at *
 have hb1 : (kS 8 f).length = 8 := j3 8 f
 have hb2 : (kS 8 st).length = 8 := j3 8 st
 have e0 := uV ⟨w, h, ts, f, st, v⟩
 dsimp only at e0
 have e8 : (gg ⟨w, h, ts, f, st, v⟩).drop 8 = kS 8 st ++ (vU v ++ kD w h ts) := by rw [e0]; exact List.drop_left' hb1
 have e16 : (gg ⟨w, h, ts, f, st, v⟩).drop 16 = vU v ++ kD w h ts := by
  rw [show 16 = 8 + 8 from rfl, ← List.drop_drop, e8]
  exact List.drop_left' hb2
 have n1 : ky 8 (gg ⟨w, h, ts, f, st, v⟩) = f := by
  rw [e0]
  exact QT ⟨hf, by rw [e8N]; omega⟩ (isB_app.2 ⟨wm _ _, isB_app.2 ⟨zS, hcv⟩⟩)
 have n2 : ky 8 ((gg ⟨w, h, ts, f, st, v⟩).drop 8) = st := by
  rw [e8]
  exact QT ⟨by omega, by rw [e8N]; omega⟩ (isB_app.2 ⟨zS, hcv⟩)
 have hv : vV ((gg ⟨w, h, ts, f, st, v⟩).drop 16) = .ok v (kD w h ts) := by
  rw [e16]
  exact (Hx 110 290).fwd v _ ⟨hvB, hv9⟩
 obtain ⟨g1, g2, g3, _⟩ := Jv hr
 have hbk := VP q9 w h ts []
 have en : kD w h ts ++ [] = kD w h ts := qbk _
 rw [show (w :: h :: qR q9 [] ts) ++ [] = kD w h ts ++ [] from rfl, en] at hbk
 have hy := ZU (gg ⟨w, h, ts, f, st, v⟩) (by omega) hi (by omega) v (kD w h ts) hv ts.length (by omega) g3 g1 ts _ hbk rfl (by rw [n1, n2]; exact hk)
 rw [n1, n2] at hy
 exact hy
end Go.Proofs.YtofklkbfkoliiaaGreat
namespace Go.Proofs.YtofklkbfkoliiaaGreat
set_option linter.unusedVariables false
set_option linter.unusedSimpArgs false
open Go.RowKit
attribute [local irreducible] gc gd kH gg y8 ji wo ue QQ uU ky tkN
def wS : SnM := ⟨1, 1, [zT], 3, 5, z9⟩
def VW : List Int := qaJ 300 0
def wp0 : PcM := ⟨1, 0, 2, qaJ 256 0⟩
def wp1 : PcM := ⟨1, 1, 2, qaJ 44 0⟩
def wx : PcM := ⟨2, 0, 3, qaJ 256 0⟩
def wq1 : PiM := ⟨1, 2, [[], qaJ 44 0]⟩
def wq2 : PiM := ⟨1, 2, [qaJ 256 0, qaJ 44 0]⟩
def wq3 : PiM := ⟨2, 3, [qaJ 256 0, [], []]⟩
theorem qah : y8 1 VW = [wp0, wp1] := by kernel_rfl
theorem ZV : kH [wp1, wp1] (zPi, 0) = (wq1, 1) := by kernel_rfl
theorem ZW : gd wq1 wp0 = (0, wq2) := by kernel_rfl
theorem ZX : gd wq2 wx = (0, wq3) := by kernel_rfl
theorem ZY : gd wq3 wp0 = (241, wq3) := by kernel_rfl
theorem wk_q1 : ji wq1 = true := by kernel_rfl
theorem wk_q2 : ji wq2 = true := by kernel_rfl
theorem wk_q3 : ji wq3 = true := by kernel_rfl
theorem wkn1 : wo wq1 = (0, true) := by kernel_rfl
theorem wkn3 : wo wq3 = (1, true) := by kernel_rfl
theorem wk_w1 : ue wq1 = false := by kernel_rfl
theorem wk_w2 : ue wq2 = true := by kernel_rfl
theorem Xf : uU wS = true := by kernel_rfl
theorem YX : (gg wS).length = 83 := by kernel_rfl
theorem ZZ : QQ wS wS = true := by kernel_rfl
theorem qai : QM wS.ts := by
 intro t ht c hc
 rw [show wS.ts = [zT] from rfl] at ht
 obtain rfl := List.mem_singleton.1 ht
 have : c = zC4 := List.eq_of_mem_replicate (show c ∈ qaJ 64 zC4 from hc)
 subst this
 unfold C4.rng
 decide
theorem Xg : isB (gg wS) := VV (snOk_iff.1 Xf).1 qai
theorem Xh : ∀ s, ¬ RdS ((gg wS).take 82) s := by
 intro s h
 have h1 := (snOk_iff.1 h.ok).1
 have h2 := zR h1
 have h3 := congrArg List.length h.eq
 rw [qaT, YX] at h3
 omega
theorem Z0 : DFun Tryz.prog 19 [.val (.int .u64 1), .slf 1 (VW).length ((VW).flatMap uc8)] [] (.tup [.slm 4 [wp0, wp1].length ([wp0, wp1].flatMap pcD), .val (.int .i64 0)]) [] := by
 have h := cut_d 1 VW rfl (by decide) (by decide)
 rw [qah] at h
 exact h
theorem Xi : DFun Tryz.prog 37 [.agg (piD zPi), .slm 4 [wp1, wp1].length ([wp1, wp1].flatMap pcD)] [] (.tup [.agg (piD wq1), .val (.int .i64 1), .val (.int .i64 0)]) [] := by
 have h := ZP zPi qaf [wp1, wp1] (by decide)
 rw [ZV] at h
 exact h
theorem QU {p q : PiM} {x : PcM} (hp : ji p = true) (h : gd p x = (0, q)) : DFun Tryz.prog 30 [.agg (piD p), .agg (pcD x)] [] (.tup [.agg (piD q), .val (.int .i64 0)]) [] := by
 have h1 := ZL p (by have := (vj hp).1; omega) (fun b hb => by have := (vj hp).2 b hb; omega) hp x (by rw [h])
 rw [h] at h1
 exact h1
theorem Z1 {p q : PiM} {x : PcM} {e : Int} (hp : ji p = true) (he : e ≠ 0) (h : gd p x = (e, q)) : DFun Tryz.prog 30 [.agg (piD p), .agg (pcD x)] [] (.tup [.agg (piD zPi), .val (.int .i64 e)]) [] :=
 ZK p (by have := (vj hp).1; omega) (fun b hb => by have := (vj hp).2 b hb; omega) hp x e he (by rw [h])
theorem xk : DFun Tryz.prog 7 [] [] (.val (.bool true)) [] := by
 refine zap (N := 180) 0 (by kernel_rfl) Tryz.func7 rfl rfl rfl (by simp only [fr0, qau, qaw]; exact rfl) rfl fun s0 hs0 => ?_
 refine zah ?_
 refine zaa 1 rfl ?_
 refine zab ?_
 refine zae ?_
 refine zam 2 ?_
 refine zac ?_
 refine zaj rfl (Yy 0 (1) (.int .u8 0) rfl w4 yN (by kernel_rfl) (by decide) (ev1 rfl) (ev1 rfl) (fun _ => rfl) (fun _ => rfl) rfl (fun _ => by decide)) ?_
 refine za rfl (kX (ps := [(0, .const (.int .i64 1)), (1, .const (.int .i64 1)), (2, .tmp 26)]) rfl fl24 Vo (ec (ev1 rfl) (ec (ev1 rfl) (ec (ev1 rfl) en))) rfl rfl rfl) ?_
 refine za rfl (kX (ps := [(0, .tmp 27), (1, .const (.int .u64 3)), (2, .const (.int .u64 5))]) rfl fl29 xF (ec (ev1 rfl) (ec (ev1 rfl) (ec (ev1 rfl) en))) rfl rfl rfl) ?_
 refine zaj rfl (zan 1 rfl xF rfl) ?_
 refine zar rfl (kt rfl vO (ev1 rfl) (ev1 rfl) rfl rfl rfl rfl) ?_
 refine zab ?_
 refine zae ?_
 refine YB 1 2 rfl rfl rfl (by simp only [qaE, qaH, zad, zaf]; exact rfl) ?_
 refine Zg 1 (show _ = .mix 29 (snL wS) from by kernel_rfl) rfl (by simp only [qaE, qaH, zad, zaf]; exact rfl) ?_
 refine zac ?_
 refine za rfl (qo rfl vO (ev1 rfl) rfl rfl) ?_
 refine za rfl (zai [] [] [] rfl (ev1 rfl) (ec (ev1 rfl) en) rfl rfl (VT wS Xf (by decide)) rfl rfl rfl rfl rfl rfl) ?_
 refine zaa 5 rfl ?_
 refine zab ?_
 refine zae ?_
 refine zam 1 ?_
 refine zac ?_
 refine zaa 1 rfl ?_
 refine za rfl (zai [] [] [] rfl (ev1 rfl) (ec (ev1 rfl) en) rfl rfl (YW Xf (by decide) Xg (fun _ _ => rfl)) rfl rfl rfl rfl rfl rfl) ?_
 refine zaa 3 rfl ?_
 refine zaj rfl (zan 2 rfl xF rfl) ?_
 refine zar rfl (kt rfl vO (ev1 rfl) (ev1 rfl) rfl rfl rfl rfl) ?_
 refine zaa 1 rfl ?_
 refine zab ?_
 refine zah ?_
 refine za rfl ((Qf (300) (.int .u8 0) rfl qu zr5 (ev1 rfl) (ev1 rfl) (fun _ => rfl) (fun _ => rfl) (fun _ => by decide)).cast (d' := .slf 1 (VW).length ((VW).flatMap uc8)) (by kernel_rfl)) ?_
 refine za rfl (zai [] [] [] rfl (ev1 rfl) (ec (ev1 rfl) (ec (ev1 rfl) en)) rfl rfl (Z0) rfl rfl rfl rfl rfl rfl) ?_
 refine zaa 5 rfl ?_
 refine zab ?_
 refine zae ?_
 refine zah ?_
 refine zaa 1 rfl ?_
 refine za rfl (ka rfl (ev1 rfl) (ev1 rfl)) ?_
 refine zaa 1 rfl ?_
 refine zak (qm rfl rfl rfl) rfl rfl rfl (zal (.inl rfl) (ev1 rfl)) ?_
 refine zak (qm rfl rfl rfl) rfl rfl rfl (ka rfl (ev2 rfl) (ev1 rfl)) ?_
 refine za rfl (kA rfl (ev1 rfl) (ev3 rfl id)) ?_
 refine zaa 1 rfl ?_
 refine zak (qm rfl rfl rfl) rfl rfl rfl (zal (.inl rfl) (ev1 rfl)) ?_
 refine zak (qm rfl rfl rfl) rfl rfl rfl (ka rfl (ev2 rfl) (ev1 rfl)) ?_
 refine za rfl (kA rfl (ev1 rfl) (ev3 rfl id)) ?_
 refine zaa 1 rfl ?_
 refine zak (qm rfl rfl rfl) rfl rfl rfl (zal (.inl rfl) (ev1 rfl)) ?_
 refine zak (qm rfl rfl rfl) rfl rfl rfl (qt rfl qu (ev2 rfl)) ?_
 refine zak (qm rfl rfl rfl) rfl rfl rfl (ka rfl (ev2 rfl) (ev1 rfl)) ?_
 refine za rfl (kA rfl (ev1 rfl) (ev3 rfl id)) ?_
 refine zaa 1 rfl ?_
 refine zak (qm rfl rfl rfl) rfl rfl rfl (zal (.inl rfl) (ev1 rfl)) ?_
 refine zak (qm rfl rfl rfl) rfl rfl rfl (jr rfl jV (ev2 rfl)) ?_
 refine zak (qm rfl rfl rfl) rfl rfl rfl (ka rfl (ev2 rfl) (ev1 rfl)) ?_
 refine za rfl (kA rfl (ev1 rfl) (ev3 rfl id)) ?_
 refine zaa 1 rfl ?_
 refine zak (qm rfl rfl rfl) rfl rfl rfl (qo rfl vO (ev1 rfl) rfl rfl) ?_
 refine zak (qm rfl rfl rfl) rfl rfl rfl (qo rfl vO (ev1 rfl) rfl rfl) ?_
 refine zak (qm rfl rfl rfl) rfl rfl rfl (zai [] [] [] rfl (ev1 rfl) (ec (ev2 rfl) (ec (ev2 rfl) en)) rfl rfl (ZT wS wS (by decide)) rfl rfl rfl rfl rfl rfl) ?_
 refine zak (qm rfl rfl rfl) rfl rfl rfl (ko rfl (ev2 rfl)) ?_
 refine za rfl (kA rfl (ev1 rfl) (ev3 rfl id)) ?_
 refine zab ?_
 refine qc rfl (by rw [YX, ZZ]; rfl) ?_
 refine zao ?_
 refine zae ?_
 refine zam 1 ?_
 refine qg [([], []), ([], []), ([], []), ([], []), ([], []), ([], []), ([], []), ([], []), ([], []), ([], []), ([], []), ([], []), ([], []), ([3], [3]), ([3], [3]), ([], []), ([], [])] qU (by kernel_rfl) ?_
 refine zag rfl rfl (kW rfl fl61 xE) ?_
 refine zag rfl rfl (zal (.inl rfl) (ev1 rfl)) ?_
 refine zag rfl rfl (yU (1) (by decide) rfl jV (ev1 rfl) (ev1 rfl) (fun _ => rfl) (by decide) (fun _ => rfl)) ?_
 refine zag rfl rfl (yV rfl kx (ev1 rfl) rfl rfl) ?_
 refine zag rfl rfl (zal (.inl rfl) (ev1 rfl)) ?_
 refine zag rfl rfl (yU (1) (by decide) rfl jV (ev1 rfl) (ev1 rfl) (fun _ => rfl) (by decide) (fun _ => rfl)) ?_
 refine zag rfl rfl (yV rfl kx (ev1 rfl) rfl rfl) ?_
 refine zag rfl rfl (zp (ps := [(0, .tmp 74), (1, .tmp 77)]) rfl jV k9 rfl (ec (ev1 rfl) (ec (ev1 rfl) en)) rfl rfl rfl (by rfl) rfl (by decide) (by decide)) ?_
 refine zag rfl rfl (zai [] [] [] rfl (ev1 rfl) (ec (yo (ev1 rfl) U0) (ec (ev1 rfl) en)) rfl rfl (Xi) rfl rfl rfl rfl rfl rfl) ?_
 refine zag rfl rfl (zal (.inl rfl) (ev1 rfl)) ?_
 refine zag rfl rfl (jU rfl (ev1 rfl) rfl) ?_
 refine zag rfl rfl (jU rfl (ev1 rfl) rfl) ?_
 refine zag rfl rfl (jU rfl (ev1 rfl) rfl) ?_
 refine gf rfl rfl (zan 3 rfl xE rfl) rfl (by simp only [upd, zad, zaf]; exact rfl) ?_
 refine gt rfl rfl (kt rfl jt (ev1 rfl) (ev1 rfl) rfl rfl rfl rfl) rfl (by simp only [upd, zad, zaf]; exact rfl) ?_
 refine zag rfl rfl (zal (.inr rfl) (ev1 rfl)) ?_
 refine zag rfl rfl (zal (.inr rfl) (ev1 rfl)) ?_
 refine qp ?_
 refine zah ?_
 refine za rfl (qo rfl jt (ev1 rfl) rfl rfl) ?_
 refine za rfl (zai [] [] [] rfl (ev1 rfl) (ec (ev1 rfl) en) rfl rfl (U2 wq1 (by decide)) rfl rfl rfl rfl rfl rfl) ?_
 refine zaa 5 rfl ?_
 refine zab ?_
 refine zah ?_
 refine za rfl (qo rfl jt (ev1 rfl) rfl rfl) ?_
 refine za rfl (zai [] [] [] rfl (ev1 rfl) (ec (ev1 rfl) en) rfl rfl (ZQ wq1 (by decide) wk_w1) rfl rfl rfl rfl rfl rfl) ?_
 refine zaa 5 rfl ?_
 refine zab ?_
 refine zae ?_
 refine qg [([3], []), ([], []), ([], []), ([], []), ([], []), ([], []), ([], []), ([], []), ([3], [3]), ([], [])] qU (by kernel_rfl) ?_
 refine zag rfl rfl (qo rfl jt (ev1 rfl) rfl rfl) ?_
 refine zag rfl rfl (zal (.inl rfl) (ev1 rfl)) ?_
 refine zag rfl rfl (yU (0) (by decide) rfl jV (ev1 rfl) (ev1 rfl) (fun _ => rfl) (by decide) (fun _ => rfl)) ?_
 refine zag rfl rfl (yV rfl kx (ev1 rfl) rfl rfl) ?_
 refine zag rfl rfl (zai [] [] [] rfl (ev1 rfl) (ec (ev1 rfl) (ec (ev1 rfl) en)) rfl rfl (QU wk_q1 ZW) rfl rfl rfl rfl rfl rfl) ?_
 refine zag rfl rfl (zal (.inl rfl) (ev1 rfl)) ?_
 refine zag rfl rfl (jU rfl (ev1 rfl) rfl) ?_
 refine zag rfl rfl (jU rfl (ev1 rfl) rfl) ?_
 refine gt rfl rfl (Jb rfl jt (ev1 rfl) (ev1 rfl) rfl rfl rfl rfl) rfl (by simp only [upd, zad, zaf]; exact rfl) ?_
 refine zag rfl rfl (zal (.inr rfl) (ev1 rfl)) ?_
 refine qp ?_
 refine zah ?_
 refine za rfl (qo rfl jt (ev1 rfl) rfl rfl) ?_
 refine za rfl (zai [] [] [] rfl (ev1 rfl) (ec (ev1 rfl) en) rfl rfl (ZR wq2 (by decide) wk_w2 (by decide)) rfl rfl rfl rfl rfl rfl) ?_
 refine zaa 5 rfl ?_
 refine zab ?_
 refine zae ?_
 have hl83 := YX
 refine zam 1 ?_
 refine zac ?_
 refine zaa 1 rfl ?_
 refine za rfl (gF (j := 82) rfl qu (ev1 rfl) (kB (ev1 rfl)) (fun _ => by omega) (fun _ => by omega) (fun _ => rfl)) ?_
 refine za rfl (zai [] [] [] rfl (ev1 rfl) (ec (ev1 rfl) en) rfl rfl ((Xe (by rw [qaT]; omega) (UN Xg 82) Xh)) rfl rfl rfl rfl rfl rfl) ?_
 refine zaa 3 rfl ?_
 refine zaj rfl (zan 4 rfl xF rfl) ?_
 refine zar rfl (kt rfl vO (ev1 rfl) (ev1 rfl) rfl rfl rfl rfl) ?_
 refine zaa 1 rfl ?_
 refine zab ?_
 refine zae ?_
 refine zam 1 ?_
 refine qg [([3], []), ([], []), ([], []), ([], []), ([], []), ([], []), ([], []), ([5], [5]), ([5], [5]), ([], [])] qU (by kernel_rfl) ?_
 refine zag rfl rfl (qo rfl jt (ev1 rfl) rfl rfl) ?_
 refine zag rfl rfl (Qf (256) (.int .u8 0) rfl qu zr5 (ev1 rfl) (ev1 rfl) (fun _ => rfl) (fun _ => rfl) (fun _ => by decide)) ?_
 refine zag rfl rfl (kX (ps := [(0, .const (.int .u64 2)), (2, .const (.int .i64 3)), (3, .tmp 114)]) rfl w9 k9 (ec (ev1 rfl) (ec (ev1 rfl) (ec (ev1 rfl) en))) rfl rfl rfl) ?_
 refine zag rfl rfl (zai [] [] [] rfl (ev1 rfl) (ec (ev1 rfl) (ec (ev1 rfl) en)) rfl rfl (QU wk_q2 ZX) rfl rfl rfl rfl rfl rfl) ?_
 refine zag rfl rfl (zal (.inl rfl) (ev1 rfl)) ?_
 refine zag rfl rfl (jU rfl (ev1 rfl) rfl) ?_
 refine zag rfl rfl (jU rfl (ev1 rfl) rfl) ?_
 refine gf rfl rfl (zan 5 rfl xE rfl) rfl (by simp only [upd, zad, zaf]; exact rfl) ?_
 refine gt rfl rfl (kt rfl jt (ev1 rfl) (ev1 rfl) rfl rfl rfl rfl) rfl (by simp only [upd, zad, zaf]; exact rfl) ?_
 refine zag rfl rfl (zal (.inr rfl) (ev1 rfl)) ?_
 refine qp ?_
 refine zah ?_
 refine za rfl (qo rfl jt (ev1 rfl) rfl rfl) ?_
 refine za rfl (zai [] [] [] rfl (ev1 rfl) (ec (ev1 rfl) en) rfl rfl (U2 wq3 (by decide)) rfl rfl rfl rfl rfl rfl) ?_
 refine zaa 5 rfl ?_
 refine zab ?_
 refine zae ?_
 refine zam 1 ?_
 refine qg [([5], []), ([], []), ([], []), ([], []), ([], []), ([], []), ([], []), ([], []), ([6], [6]), ([6], [6]), ([], [])] qU (by kernel_rfl) ?_
 refine zag rfl rfl (qo rfl jt (ev1 rfl) rfl rfl) ?_
 refine zag rfl rfl (zal (.inl rfl) (ev1 rfl)) ?_
 refine zag rfl rfl (yU (0) (by decide) rfl jV (ev1 rfl) (ev1 rfl) (fun _ => rfl) (by decide) (fun _ => rfl)) ?_
 refine zag rfl rfl (yV rfl kx (ev1 rfl) rfl rfl) ?_
 refine zag rfl rfl (zai [] [] [] rfl (ev1 rfl) (ec (ev1 rfl) (ec (ev1 rfl) en)) rfl rfl (Z1 wk_q3 (by decide) ZY) rfl rfl rfl rfl rfl rfl) ?_
 refine zag rfl rfl (zal (.inl rfl) (ev1 rfl)) ?_
 refine zag rfl rfl (jU rfl (ev1 rfl) rfl) ?_
 refine zag rfl rfl (jU rfl (ev1 rfl) rfl) ?_
 refine gf rfl rfl (zan 6 rfl xE rfl) rfl (by simp only [upd, zad, zaf]; exact rfl) ?_
 refine gt rfl rfl (kt rfl jt (ev1 rfl) (ev1 rfl) rfl rfl rfl rfl) rfl (by simp only [upd, zad, zaf]; exact rfl) ?_
 refine zag rfl rfl (zal (.inr rfl) (ev1 rfl)) ?_
 refine qp ?_
 refine zah ?_
 refine zaa 1 rfl ?_
 refine za rfl (qv rfl (ev1 rfl) (ev1 rfl)) ?_
 refine zaa 1 rfl ?_
 refine zak (qz rfl rfl rfl) rfl rfl rfl (zal (.inl rfl) (ev1 rfl)) ?_
 refine zak (qz rfl rfl rfl) rfl rfl rfl (qv rfl (ev2 rfl) (ev1 rfl)) ?_
 refine za rfl (q0 rfl (ev1 rfl) (ev3 rfl id)) ?_
 refine zaa 1 rfl ?_
 refine zak (qz rfl rfl rfl) rfl rfl rfl (zal (.inl rfl) (ev1 rfl)) ?_
 refine zak (qz rfl rfl rfl) rfl rfl rfl (qv rfl (ev2 rfl) (ev1 rfl)) ?_
 refine za rfl (q0 rfl (ev1 rfl) (ev3 rfl id)) ?_
 refine zaa 1 rfl ?_
 refine zak (qz rfl rfl rfl) rfl rfl rfl (zal (.inl rfl) (ev1 rfl)) ?_
 refine zak (qz rfl rfl rfl) rfl rfl rfl (qv rfl (ev2 rfl) (ev1 rfl)) ?_
 refine za rfl (q0 rfl (ev1 rfl) (ev3 rfl id)) ?_
 refine zaa 1 rfl ?_
 refine zak (qz rfl rfl rfl) rfl rfl rfl (zal (.inl rfl) (ev1 rfl)) ?_
 refine zak (qz rfl rfl rfl) rfl rfl rfl (qv rfl (ev2 rfl) (ev1 rfl)) ?_
 refine za rfl (q0 rfl (ev1 rfl) (ev3 rfl id)) ?_
 refine zaa 1 rfl ?_
 refine zak (qz rfl rfl rfl) rfl rfl rfl (zal (.inl rfl) (ev1 rfl)) ?_
 refine za rfl (q0 rfl (ev1 rfl) (ev3 rfl id)) ?_
 refine zaa 1 rfl ?_
 refine zak (qz rfl rfl rfl) rfl rfl rfl (zal (.inl rfl) (ev1 rfl)) ?_
 refine zak (qz rfl rfl rfl) rfl rfl rfl (ko rfl (ev2 rfl)) ?_
 refine za rfl (q0 rfl (ev1 rfl) (ev3 rfl id)) ?_
 refine zaa 1 rfl ?_
 refine zak (qz rfl rfl rfl) rfl rfl rfl (zal (.inl rfl) (ev1 rfl)) ?_
 refine za rfl (q0 rfl (ev1 rfl) (ev3 rfl id)) ?_
 refine zaa 1 rfl ?_
 refine zak (qz rfl rfl rfl) rfl rfl rfl (zal (.inl rfl) (ev1 rfl)) ?_
 refine zak (qz rfl rfl rfl) rfl rfl rfl (qt rfl qu (ev2 rfl)) ?_
 refine zak (qz rfl rfl rfl) rfl rfl rfl (qv rfl (ev2 rfl) (ev1 rfl)) ?_
 refine za rfl (q0 rfl (ev1 rfl) (ev3 rfl id)) ?_
 refine zaa 1 rfl ?_
 refine zak (qz rfl rfl rfl) rfl rfl rfl (zal (.inl rfl) (ev1 rfl)) ?_
 refine zak (qz rfl rfl rfl) rfl rfl rfl (qv rfl (ev2 rfl) (ev1 rfl)) ?_
 refine za rfl (q0 rfl (ev1 rfl) (ev3 rfl id)) ?_
 refine zaa 1 rfl ?_
 refine zak (qz rfl rfl rfl) rfl rfl rfl (zal (.inl rfl) (ev1 rfl)) ?_
 refine zak (qz rfl rfl rfl) rfl rfl rfl (qv rfl (ev2 rfl) (ev1 rfl)) ?_
 refine za rfl (q0 rfl (ev1 rfl) (ev3 rfl id)) ?_
 refine zaa 1 rfl ?_
 refine zak (qz rfl rfl rfl) rfl rfl rfl (zal (.inl rfl) (ev1 rfl)) ?_
 refine za rfl (q0 rfl (ev1 rfl) (ev3 rfl id)) ?_
 refine zaa 1 rfl ?_
 refine zak (qz rfl rfl rfl) rfl rfl rfl (zal (.inl rfl) (ev1 rfl)) ?_
 refine zak (qz rfl rfl rfl) rfl rfl rfl (qv rfl (ev2 rfl) (ev1 rfl)) ?_
 refine za rfl (q0 rfl (ev1 rfl) (ev3 rfl id)) ?_
 refine zaa 1 rfl ?_
 refine zab ?_
 refine qb ?_
 refine qx (rs1 rfl (qJ rfl)) rfl ?_
 rw [wkn1, wkn3]
 rfl
end Go.Proofs.YtofklkbfkoliiaaGreat
namespace Go.Proofs.YtofklkbfkoliiaaGreat
set_option linter.unusedVariables false
set_option linter.unusedSimpArgs false
open Go.RowKit
open Go.ChangeShapes Go.WideShapes Go.ChangeAt Go.Joins Go.Deep
theorem z7 {v : Value} (h : (Prim.int .i64).is v) : ∃ a : Int, (-9223372036854775808 ≤ a ∧ a ≤ 9223372036854775807) ∧ v = .int .i64 a := by
 obtain ⟨x, rfl, w⟩ := h
 exact ⟨x, by simpa [Lit.wf, IntKind.min, IntKind.max, IntKind.signed, IntKind.bits] using w, rfl⟩
theorem z8 {v : Value} (h : (Prim.int .u64).is v) : ∃ a : Int, (0 ≤ a ∧ a ≤ 18446744073709551615) ∧ v = .int .u64 a := by
 obtain ⟨x, rfl, w⟩ := h
 exact ⟨x, by simpa [Lit.wf, IntKind.min, IntKind.max, IntKind.signed, IntKind.bits] using w, rfl⟩
theorem Xj : ∀ cs, yE [.int .i64] cs → ∃ a : Int, (-9223372036854775808 ≤ a ∧ a ≤ 9223372036854775807) ∧ cs = [.int .i64 a]
 | [c0], h => by
  obtain ⟨h0, _⟩ := h
  obtain ⟨a, w, rfl⟩ := z7 h0
  exact ⟨a, w, rfl⟩
 | [], h => by cases h
 | _ :: _ :: _, h => by obtain ⟨_, h⟩ := h; cases h
theorem Z2 {v : Value} (h : (Prim.int .u8).is v) : ∃ a : Int, (0 ≤ a ∧ a ≤ 255) ∧ v = .int .u8 a := by
 obtain ⟨x, rfl, w⟩ := h
 exact ⟨x, by simpa [Lit.wf, IntKind.min, IntKind.max, IntKind.signed, IntKind.bits] using w, rfl⟩
theorem Xk : ∀ cs, yE [.int .u8] cs → ∃ a : Int, (0 ≤ a ∧ a ≤ 255) ∧ cs = uc8 a
 | [c0], h => by
  obtain ⟨h0, _⟩ := h
  obtain ⟨a, w, rfl⟩ := Z2 h0
  exact ⟨a, w, rfl⟩
 | [], h => by cases h
 | _ :: _ :: _, h => by obtain ⟨_, h⟩ := h; cases h
end Go.Proofs.YtofklkbfkoliiaaGreat
namespace Go.Proofs.YtofklkbfkoliiaaGreat
set_option linter.unusedVariables false
set_option linter.unusedSimpArgs false
open Go.RowKit
open Go.ChangeShapes Go.WideShapes Go.ChangeAt Go.Joins Go.Deep
theorem Xl : ∀ cs, yE [.int .i64] cs → ∃ a : Int, (-9223372036854775808 ≤ a ∧ a ≤ 9223372036854775807) ∧ cs = inI a := fun cs h => Xj cs h
end Go.Proofs.YtofklkbfkoliiaaGreat
namespace Go.Proofs.YtofklkbfkoliiaaGreat
set_option linter.unusedVariables false
set_option linter.unusedSimpArgs false
open Go.RowKit
section
variable {P : Program} {pc : Bool} {o : Oper} {F : Fr} {M : List Blk}
theorem Z3 {l : List D} {q : D} {T T' : TypeId} {x y : Operand} {i p n sz : Nat} {rw' : Bool} (ho : o.op = .store T x y) (hT : tyB P T = some (rw', 1)) (hx : Ev pc F x (.aloc i p)) (hy : Ev pc F y q) (hM : M[i]? = some (.arx T' sz n l)) (hj : p < l.length) (h1 : ∀ (s : St) v, Rep s q v → v.cells = #[v] ∧ v.oneCell' = true) :
  DOp P pc o F M [i] .junk [(i, .arx T' sz n (l.set p q))] := by
 intro hp a s hok hops hfp
 have hr := qq hp hx (by simp [ho, Op.operands]) hops
 have hry := qq hp hy (by simp [ho, Op.operands]) hops
 have hM' : s.M[i]? = some (.arx T' sz n l) := by rw [hfp i (by simp)]; exact hM
 generalize hv : a.eval x = vx at hr
 generalize hvy : a.eval y = vy at hry
 cases hr with
 | @aloc _ _ n' c b h =>
  obtain ⟨hcel, hone⟩ := h1 s vy hry
  obtain ⟨us, hus⟩ : ∃ us, us = [vy] := ⟨_, rfl⟩
  have husz : us.length = 1 := by rw [hus]; rfl
  have hC : vy.cells.toList = us := by rw [hcel, hus]
  have hoc : ∀ u ∈ us, u.oneCell' = true := fun u hu' => by
   rw [hus] at hu'
   obtain rfl := List.mem_singleton.1 hu'
   exact hone
  obtain ⟨vs, hk, q3, q4⟩ := hok.blk i _ _ hM' h
  rcases hk.2 with ⟨e1, e2⟩ | ⟨g, cap, cur, e1, e2, e3, e4, e5, e6, e7⟩
  ·cases e1
  ·cases e1
   have hle := qa8 sz e4
   have hlV := hk.1
   have hcell := qd e3 0
   have hcurlen : cur.toList.length = c * sz := by simpa using e6
   have hrun := gv (P := P) (w := s.w) (C := us) ho hT hv hvy hC husz (fun t hp' => by
     have := hcell (p + t) _ (by simpa using qat (by simp at hcurlen ⊢; omega : p + t < cur.toList.length))
     rw [qau] at this
     rw [this]; rfl) (fun t hp' => by simp [World.frozen?, e3]) hoc
   have hβ : s.β.set i (.slice (some ⟨b, 0, none⟩) n c) = s.β := by
    apply qbi
    intro k
    by_cases e : i = k
    ·subst e; rw [qaI (qas.1 h).1, h]
    ·rw [qaG e]
   have lift : ∀ {e : D} {v : Value}, Rep s e v → Rep ⟨s.β.set i (.slice (some ⟨b, 0, none⟩) n c), s.I, s.M.set i (.arx T' sz n (l.set p q)), s.w.setCells b p us⟩ e v := by
    intro e v hr
    refine Rep.mono' (s := s) (s' := ⟨s.β.set i (.slice (some ⟨b, 0, none⟩) n c), s.I, s.M.set i (.arx T' sz n (l.set p q)), s.w.setCells b p us⟩) (fun k x hk _ => by show (s.β.set i _)[k]? = _; rw [hβ]; exact hk) (fun _ h => h) (fun b' hI => kJ b _ _ s.w b' fun e => ?_) hr
    subst e
    exact (hok.lt b' (qk hM' rfl h rfl)).2 hI
   refine yR (s' := ⟨s.β.set i (.slice (some ⟨b, 0, none⟩) n c), s.I, s.M.set i (.arx T' sz n (l.set p q)), s.w.setCells b p us⟩) hrun (yb hok hM' rfl h rfl _ us ?_) rfl
   have hsl := jD us cur.toList p
   refine ⟨jC vs p us, ⟨by rw [jD]; exact hlV, .inr ⟨b, c, (jC cur.toList p us).toArray, rfl, e2, kI b us _ s.w cur.toList T' (by simpa using e3), e4, e5, by simp [hsl]; simpa using e6, ?_⟩⟩, ?_, ?_⟩
   ·rw [jx us cur.toList _ (by omega), jx us vs _ (by omega)]
    have hcut : cur.toList = vs ++ cur.toList.drop vs.length := by
     have := List.take_append_drop (n * sz) cur.toList
     rw [e7, ← hlV] at this
     exact this.symm
    generalize cur.toList.drop vs.length = R at hcut
    rw [hcut]
    have t1 : (vs ++ R).take p = vs.take p := List.take_append_of_le_length (by omega)
    have t2 : (vs ++ R).drop (p + us.length) = vs.drop (p + us.length) ++ R := List.drop_append_of_le_length (by omega)
    rw [t1, t2, ← hlV, ← qa1]
    refine List.take_left' ?_
    simp; omega
   ·rw [jD, q3, List.length_set]
   ·intro t d v g1 g2
    rw [jx us vs _ (by omega), husz, hus] at g2
    have hlt : (vs.take p).length = p := by rw [qaT]; omega
    have hl2 : (vs.take p ++ [vy]).length = p + 1 := by rw [qaD, hlt]; rfl
    by_cases e : p = t
    ·subst e
     rw [qaI hj] at g1
     rw [qa1, qaP (by omega), hlt, Nat.sub_self] at g2
     cases g1
     cases g2
     exact lift hry
    ·rw [qaG e] at g1
     have g3 : vs[t]? = some v := by
      by_cases h2 : t < p
      ·rwa [qa1, qaN (by omega), List.getElem?_take_of_lt h2] at g2
      ·rw [qaP (by omega), hl2, qba, show p + 1 + (t - (p + 1)) = t by omega] at g2
       exact g2
     exact lift (q4 t d v g1 g3)
end
end Go.Proofs.YtofklkbfkoliiaaGreat
namespace Go.Proofs.YtofklkbfkoliiaaGreat
set_option linter.unusedVariables false
set_option linter.unusedSimpArgs false
open Go.RowKit
attribute [local irreducible] tkN jK ky
theorem Z4 (l r : List Int) : DFun Tryz.prog 66 [.slf 1 (l).length ((l).flatMap uc8), .slf 1 (r).length ((r).flatMap uc8)] [] (.val (.bool (decide (l = r)))) [] := by
 refine zap (N := 26) 0 (by kernel_rfl) Tryz.func66 rfl rfl rfl (by simp only [fr0, qau, qaw]; exact rfl) rfl fun s0 hs0 => ?_
 refine kG (t := 0) rfl fun hl0 hL0 => ?_
 refine kG (t := 1) rfl fun hl1 hL1 => ?_
 refine zah ?_
 refine zaa 1 rfl ?_
 refine zab ?_
 refine zae ?_
 refine zah ?_
 refine zaa 1 rfl ?_
 refine za rfl (qt rfl qu (ev1 rfl)) ?_
 refine zaa 1 rfl ?_
 refine za rfl (qt rfl qu (ev1 rfl)) ?_
 refine za rfl (ka rfl (ev1 rfl) (ev1 rfl)) ?_
 refine zab ?_
 refine qe rfl (fun c1 => ?_) (fun c1 => ?_)
 ·try simp only [decide_eq_true_eq, decide_eq_false_iff_not, beq_iff_eq, bne_iff_ne, beq_eq_false_iff_ne, bne_eq_false_iff_eq, qaz, qaA, qav, qaB, qax, ne_eq, Decidable.not_not, qaQ, qaR] at c1
  refine zah ?_
  refine zaa 1 rfl ?_
  refine zab ?_
  refine qb ?_
  refine qx (rs1 rfl (qJ rfl)) rfl ?_
  have hne : l ≠ r := fun e => by subst e; exact c1 rfl
  rw [decide_eq_false hne]
 ·try simp only [decide_eq_true_eq, decide_eq_false_iff_not, beq_iff_eq, bne_iff_ne, beq_eq_false_iff_ne, bne_eq_false_iff_eq, qaz, qaA, qav, qaB, qax, ne_eq, Decidable.not_not, qaQ, qaR] at c1
  have hlen : l.length = r.length := by omega
  refine zao ?_
  refine zae ?_
  refine zah ?_
  refine zaa 1 rfl ?_
  refine za rfl (qt rfl qu (ev1 rfl)) ?_
  refine zaa 1 rfl ?_
  refine zab ?_
  refine zas ?_
  refine qI ⟨hs0, rfl⟩ (α := Nat) (fun k => [(14, .val (.int .i64 (k : Int)))]) [(1, _), (12, _), (13, _)] (fun k => []) [] (fun k => k ≤ l.length ∧ l.take k = r.take k) (fun k => l.length - k) 0 [] (⟨qa5 _, rfl⟩) rfl ⟨rfl, rfl, rfl, trivial⟩ ⟨rfl, trivial⟩ trivial ?_
  intro k hx
  simp only [upd, zad, zaf, qaE, qaH]
  obtain ⟨hk, he⟩ := hx
  refine zah ?_
  refine za rfl (qA rfl (ev1 rfl) (ev1 rfl)) ?_
  refine zab ?_
  refine zae ?_
  refine qe rfl (fun c2 => ?_) (fun c2 => ?_)
  ·try simp only [decide_eq_true_eq, decide_eq_false_iff_not, beq_iff_eq, bne_iff_ne, beq_eq_false_iff_ne, bne_eq_false_iff_eq, qaz, qaA, qav, qaB, qax, ne_eq, Decidable.not_not, qaQ, qaR] at c2
   refine zao ?_
   refine zae ?_
   refine zas ?_
   refine zah ?_
   refine zaa 1 rfl ?_
   refine za rfl (qP (j := k) rfl qu (ev1 rfl) (ev1 rfl) (fun _ => rfl) (by decide) (by omega) (by omega)) ?_
   refine za rfl (qS rfl tb5 (ev1 rfl) rfl) ?_
   refine zaa 2 rfl ?_
   refine zab ?_
   refine zah ?_
   refine zaa 3 rfl ?_
   refine za rfl (qP (j := k) rfl qu (ev1 rfl) (ev1 rfl) (fun _ => rfl) (by decide) (by omega) (by omega)) ?_
   refine za rfl (qS rfl tb5 (ev1 rfl) rfl) ?_
   refine za rfl (ka rfl (ev1 rfl) (ev1 rfl)) ?_
   refine zab ?_
   refine qe rfl (fun c2 => ?_) (fun c2 => ?_)
   ·have c3 : l[k] ≠ r[k] := by simpa using c2
    refine zah ?_
    refine zaa 1 rfl ?_
    refine zab ?_
    refine qb ?_
    refine qx (rs1 rfl (qJ rfl)) rfl ?_
    have hne : l ≠ r := fun e => by subst e; exact c3 rfl
    rw [decide_eq_false hne]
   ·have c3 : l[k] = r[k] := by simpa using c2
    refine zao ?_
    refine zac ?_
    refine za rfl (qh rfl (ev1 rfl) (ev1 rfl) (fun _ => qaC _ (by omega))) ?_
    refine zaa 1 rfl ?_
    refine zab ?_
    refine ⟨k + 1, [], ⟨by omega, by rw [qa0 (by omega), qa0 (by omega), he, c3]⟩, by simp only []; omega, rfl, ⟨rfl, rfl, rfl, rfl, trivial⟩, trivial⟩
  ·try simp only [decide_eq_true_eq, decide_eq_false_iff_not, beq_iff_eq, bne_iff_ne, beq_eq_false_iff_ne, bne_eq_false_iff_eq, qaz, qaA, qav, qaB, qax, ne_eq, Decidable.not_not, qaQ, qaR] at c2
   refine qr ?_
   refine zah ?_
   refine zaa 1 rfl ?_
   refine zab ?_
   refine qb ?_
   refine qx (rs1 rfl (qJ rfl)) rfl ?_
   have e : l = r := by
    have h := he
    rw [qaX (by omega), qaX (by omega)] at h
    exact h
   rw [decide_eq_true e]
def G5 (p q : PcM) : Bool := (((p.sn == q.sn) && (p.ix == q.ix)) && (p.mn == q.mn)) && decide (p.b = q.b)
theorem zU (p : PcM) : G5 p p = true := by
 unfold G5
 simp
theorem sameP_iff {p q : PcM} : G5 p q = true ↔ p = q := by
 obtain ⟨a, b, c, d⟩ := p
 obtain ⟨e, f, g, h⟩ := q
 unfold G5
 simp only [qav, beq_iff_eq, decide_eq_true_eq, PcM.mk.injEq]
 constructor
 ·rintro ⟨⟨⟨h1, h2⟩, h3⟩, h4⟩
  exact ⟨h1, h2, h3, h4⟩
 ·rintro ⟨h1, h2, h3, h4⟩
  exact ⟨⟨⟨h1, h2⟩, h3⟩, h4⟩
theorem G6 (p q : PcM) : DFun Tryz.prog 22 [.agg (pcD p), .agg (pcD q)] [] (.val (.bool (G5 p q))) [] := by
 refine zap (N := 31) 0 (by kernel_rfl) Tryz.func22 rfl rfl rfl (by simp only [fr0, qau, qaw]; exact rfl) rfl fun s0 hs0 => ?_
 refine zae ?_
 refine zam 2 ?_
 refine zac ?_
 refine zaj rfl (qG 0 rfl (ev1 rfl) rfl) ?_
 refine zaj rfl (qG 1 rfl (ev1 rfl) rfl) ?_
 refine zaa 1 rfl ?_
 refine zab ?_
 refine zah ?_
 refine za rfl (qa rfl gM (ev1 rfl)) ?_
 refine za rfl (zaq rfl ku (ev1 rfl) rfl rfl) ?_
 refine za rfl (qa rfl gM (ev1 rfl)) ?_
 refine za rfl (zaq rfl ku (ev1 rfl) rfl rfl) ?_
 refine za rfl (qv rfl (ev1 rfl) (ev1 rfl)) ?_
 refine zaa 1 rfl ?_
 refine zak (qz rfl rfl rfl) rfl rfl rfl (qa rfl yi (ev1 rfl)) ?_
 refine zak (qz rfl rfl rfl) rfl rfl rfl (zaq rfl tb3 (ev2 rfl) rfl rfl) ?_
 refine zak (qz rfl rfl rfl) rfl rfl rfl (qa rfl yi (ev1 rfl)) ?_
 refine zak (qz rfl rfl rfl) rfl rfl rfl (zaq rfl tb3 (ev2 rfl) rfl rfl) ?_
 refine zak (qz rfl rfl rfl) rfl rfl rfl (qv rfl (ev2 rfl) (ev2 rfl)) ?_
 refine za rfl (q0 rfl (ev1 rfl) (ev3 rfl id)) ?_
 refine zaa 1 rfl ?_
 refine zak (qz rfl rfl rfl) rfl rfl rfl (qa rfl gp (ev1 rfl)) ?_
 refine zak (qz rfl rfl rfl) rfl rfl rfl (zaq rfl tb3 (ev2 rfl) rfl rfl) ?_
 refine zak (qz rfl rfl rfl) rfl rfl rfl (qa rfl gp (ev1 rfl)) ?_
 refine zak (qz rfl rfl rfl) rfl rfl rfl (zaq rfl tb3 (ev2 rfl) rfl rfl) ?_
 refine zak (qz rfl rfl rfl) rfl rfl rfl (qv rfl (ev2 rfl) (ev2 rfl)) ?_
 refine za rfl (q0 rfl (ev1 rfl) (ev3 rfl id)) ?_
 refine zaa 1 rfl ?_
 refine zak (qz rfl rfl rfl) rfl rfl rfl (qa rfl vK (ev1 rfl)) ?_
 refine zak (qz rfl rfl rfl) rfl rfl rfl (zaq rfl kC (ev2 rfl) rfl rfl) ?_
 refine zak (qz rfl rfl rfl) rfl rfl rfl (qa rfl vK (ev1 rfl)) ?_
 refine zak (qz rfl rfl rfl) rfl rfl rfl (zaq rfl kC (ev2 rfl) rfl rfl) ?_
 refine zak (qz rfl rfl rfl) rfl rfl rfl (zai [] [] [] rfl (ev1 rfl) (ec (ev2 rfl) (ec (ev2 rfl) en)) rfl rfl (Z4 _ _) rfl rfl rfl rfl rfl rfl) ?_
 refine za rfl (q0 rfl (ev1 rfl) (ev3 rfl id)) ?_
 refine zaa 1 rfl ?_
 refine zab ?_
 refine qb ?_
 refine qx (rs1 rfl (qJ rfl)) rfl ?_
 rfl
theorem Xm (l r : List PcM) : DFun Tryz.prog 21 [.slm 4 (l).length ((l).flatMap pcD), .slm 4 (r).length ((r).flatMap pcD), .fn (.func 22) [] []] [] (.val (.bool (decide (l = r)))) [] := by
 refine zap (N := 32) 0 (by kernel_rfl) Tryz.func21 rfl rfl rfl (by simp only [fr0, qau, qaw]; exact rfl) rfl fun s0 hs0 => ?_
 refine ve (t := 0) rfl fun hl0 hL0 => ?_
 refine ve (t := 1) rfl fun hl1 hL1 => ?_
 refine zah ?_
 refine zaa 1 rfl ?_
 refine zab ?_
 refine zae ?_
 refine zah ?_
 refine zaa 1 rfl ?_
 refine za rfl (jr rfl jV (ev1 rfl)) ?_
 refine zaa 1 rfl ?_
 refine za rfl (jr rfl jV (ev1 rfl)) ?_
 refine za rfl (ka rfl (ev1 rfl) (ev1 rfl)) ?_
 refine zab ?_
 refine qe rfl (fun c1 => ?_) (fun c1 => ?_)
 ·try simp only [decide_eq_true_eq, decide_eq_false_iff_not, beq_iff_eq, bne_iff_ne, beq_eq_false_iff_ne, bne_eq_false_iff_eq, qaz, qaA, qav, qaB, qax, ne_eq, Decidable.not_not, qaQ, qaR] at c1
  refine zah ?_
  refine zaa 1 rfl ?_
  refine zab ?_
  refine qb ?_
  refine qx (rs1 rfl (qJ rfl)) rfl ?_
  have hne : l ≠ r := fun e => by subst e; exact c1 rfl
  rw [decide_eq_false hne]
 ·try simp only [decide_eq_true_eq, decide_eq_false_iff_not, beq_iff_eq, bne_iff_ne, beq_eq_false_iff_ne, bne_eq_false_iff_eq, qaz, qaA, qav, qaB, qax, ne_eq, Decidable.not_not, qaQ, qaR] at c1
  have hlen : l.length = r.length := by omega
  refine zao ?_
  refine zae ?_
  refine zah ?_
  refine zaa 1 rfl ?_
  refine za rfl (jr rfl jV (ev1 rfl)) ?_
  refine zaa 1 rfl ?_
  refine zab ?_
  refine zas ?_
  refine qI ⟨hs0, rfl⟩ (α := Nat) (fun k => [(17, .val (.int .i64 (k : Int)))]) [(1, _), (2, _), (15, _), (16, _)] (fun k => []) [] (fun k => k ≤ l.length ∧ l.take k = r.take k) (fun k => l.length - k) 0 [] (⟨qa5 _, rfl⟩) rfl ⟨rfl, rfl, rfl, rfl, trivial⟩ ⟨rfl, trivial⟩ trivial ?_
  intro k hx
  simp only [upd, zad, zaf, qaE, qaH]
  obtain ⟨hk, he⟩ := hx
  refine zah ?_
  refine za rfl (qA rfl (ev1 rfl) (ev1 rfl)) ?_
  refine zab ?_
  refine zae ?_
  refine qe rfl (fun c2 => ?_) (fun c2 => ?_)
  ·try simp only [decide_eq_true_eq, decide_eq_false_iff_not, beq_iff_eq, bne_iff_ne, beq_eq_false_iff_ne, bne_eq_false_iff_eq, qaz, qaA, qav, qaB, qax, ne_eq, Decidable.not_not, qaQ, qaR] at c2
   refine zao ?_
   refine zae ?_
   refine zas ?_
   refine zae ?_
   refine zam 1 ?_
   refine zac ?_
   refine zaa 1 rfl ?_
   refine za rfl (yU (k) (by decide) rfl jV (ev1 rfl) (ev1 rfl) (fun _ => rfl) (by omega) (fun _ => rfl)) ?_
   refine za rfl (yV rfl kx (ev1 rfl) rfl rfl) ?_
   refine zaj rfl (zan 0 rfl k9 rfl) ?_
   refine zaa 1 rfl ?_
   refine zar rfl (kt rfl kx (ev1 rfl) (ev1 rfl) rfl rfl rfl rfl) ?_
   refine zab ?_
   refine zae ?_
   refine zam 1 ?_
   refine zac ?_
   refine zaa 2 rfl ?_
   refine za rfl (yU (k) (by decide) rfl jV (ev1 rfl) (ev1 rfl) (fun _ => rfl) (by omega) (fun _ => rfl)) ?_
   refine za rfl (yV rfl kx (ev1 rfl) rfl rfl) ?_
   refine zaj rfl (zan 1 rfl k9 rfl) ?_
   refine zar rfl (kt rfl kx (ev1 rfl) (ev1 rfl) rfl rfl rfl rfl) ?_
   refine zab ?_
   refine zah ?_
   refine zaa 1 rfl ?_
   refine za rfl (qo rfl kx (ev1 rfl) rfl rfl) ?_
   refine za rfl (qo rfl kx (ev1 rfl) rfl rfl) ?_
   refine za rfl (zai [] [] [] rfl (ev1 rfl) (ec (ev1 rfl) (ec (ev1 rfl) en)) rfl rfl (G6 _ _) rfl rfl rfl rfl rfl rfl) ?_
   refine za rfl (ko rfl (ev1 rfl)) ?_
   refine zab ?_
   refine qe rfl (fun c2 => ?_) (fun c2 => ?_)
   ·have c3 : l[k] ≠ r[k] := fun e => by rw [e, zU] at c2; cases c2
    refine zah ?_
    refine zaa 1 rfl ?_
    refine zab ?_
    refine qb ?_
    refine qx (rs1 rfl (qJ rfl)) rfl ?_
    have hne : l ≠ r := fun e => by subst e; exact c3 rfl
    rw [decide_eq_false hne]
   ·have c3 : l[k] = r[k] := sameP_iff.1 (by simpa using c2)
    refine zao ?_
    refine zac ?_
    refine za rfl (qh rfl (ev1 rfl) (ev1 rfl) (fun _ => qaC _ (by omega))) ?_
    refine zaa 1 rfl ?_
    refine zab ?_
    refine ⟨k + 1, [], ⟨by omega, by rw [qa0 (by omega), qa0 (by omega), he, c3]⟩, by simp only []; omega, rfl, ⟨rfl, rfl, rfl, rfl, rfl, trivial⟩, trivial⟩
  ·try simp only [decide_eq_true_eq, decide_eq_false_iff_not, beq_iff_eq, bne_iff_ne, beq_eq_false_iff_ne, bne_eq_false_iff_eq, qaz, qaA, qav, qaB, qax, ne_eq, Decidable.not_not, qaQ, qaR] at c2
   refine qr ?_
   refine zah ?_
   refine zaa 1 rfl ?_
   refine zab ?_
   refine qb ?_
   refine qx (rs1 rfl (qJ rfl)) rfl ?_
   have e : l = r := by
    have h := he
    rw [qaX (by omega), qaX (by omega)] at h
    exact h
   rw [decide_eq_true e]
theorem JD (n : Int) : DFun Tryz.prog 65 [.val (.int .u64 n)] [] (.val (.bool (snB n))) [] := by
 refine zap (N := 9) 0 (by kernel_rfl) Tryz.func65 rfl rfl rfl (by simp only [fr0, qau, qaw]; exact rfl) rfl fun s0 hs0 => ?_
 refine zah ?_
 refine zaa 1 rfl ?_
 refine zab ?_
 refine zah ?_
 refine zaa 1 rfl ?_
 refine za rfl (jY rfl (ev1 rfl) (ev1 rfl)) ?_
 refine zaa 1 rfl ?_
 refine zak (qz rfl rfl rfl) rfl rfl rfl (zal (.inl rfl) (ev1 rfl)) ?_
 refine zak (qz rfl rfl rfl) rfl rfl rfl (yD rfl (ev2 rfl) (ev1 rfl)) ?_
 refine za rfl (q0 rfl (ev1 rfl) (ev3 rfl id)) ?_
 refine zaa 1 rfl ?_
 refine zab ?_
 refine qb ?_
 refine qx (rs1 rfl (qJ rfl)) rfl ?_
 rfl
def pcM (sn : Int) (b : List Int) (n k : Nat) (i : Nat) : PcM := ⟨sn, i, if i < k then n else 0, kY b i⟩
def dM (sn : Int) (b : List Int) (n k m : Nat) : List PcM := (qaY m).map (pcM sn b n k)
theorem zV (sn : Int) (b : List Int) (n k m : Nat) : (dM sn b n k m).length = m := by unfold dM; simp
theorem QV (sn : Int) (b : List Int) (n m : Nat) : dM sn b n 0 (m + 1) = dM sn b n 0 m ++ [⟨sn, m, 0, kY b m⟩] := by
 unfold dM
 rw [List.range_succ, List.map_append]
 rfl
theorem qaj (sn : Int) (b : List Int) (n m : Nat) : dM sn b n 0 m = dM sn b 0 0 m := by
 unfold dM
 refine List.map_congr_left fun i _ => ?_
 unfold pcM
 rw [if_neg (Nat.not_lt_zero _), if_neg (Nat.not_lt_zero _)]
theorem YY {sn : Int} {b : List Int} {n k m i : Nat} (h : i < (dM sn b n k m).length) : (dM sn b n k m)[i] = pcM sn b n k i := by
 refine (List.getElem_eq_iff h).2 ?_
 rw [zV] at h
 unfold dM
 rw [qbb, List.getElem?_range h]
 rfl
theorem qak (sn : Int) (b : List Int) : dM sn b (mnN b) (mnN b) (mnN b) = y8 sn b := by
 unfold dM y8
 refine List.map_congr_left fun i hi => ?_
 unfold pcM pcK
 rw [if_pos (List.mem_range.1 hi)]
theorem QW (v : Int) : ∀ (l : List PcM) (k : Nat) (h : k < l.length), (l.flatMap pcD).set (k * 4 + 2) (.val (.int .i64 v)) = (l.set k { l[k] with mn := v }).flatMap pcD
 | [], k, h => by simp at h
 | p :: r, 0, _ => rfl
 | p :: r, k + 1, h => by
  have ih := QW v r k (by simpa using h)
  rw [qaL, zaf, qaL, List.set_append_right _ _ (show (pcD p).length ≤ _ from by show 4 ≤ _; omega)]
  have e : (k + 1) * 4 + 2 - (pcD p).length = k * 4 + 2 := by
   show (k + 1) * 4 + 2 - 4 = _
   omega
  rw [e, ih]
  rfl
theorem qal {sn : Int} {b : List Int} {n k m : Nat} (h : k < m) : ((dM sn b n k m).flatMap pcD).set (k * 4 + 2) (.val (.int .i64 n)) = (dM sn b n (k + 1) m).flatMap pcD := by
 have hl : k < (dM sn b n k m).length := by rw [zV]; exact h
 rw [QW _ _ k hl]
 congr 1
 refine List.ext_getElem (by rw [List.length_set, zV, zV]) fun i h1 h2 => ?_
 rw [YY h2]
 by_cases e : k = i
 ·subst e
  rw [List.getElem_set_self, YY]
  unfold pcM
  simp
 ·rw [List.getElem_set_ne e, YY]
  unfold pcM
  have : (i < k) = (i < k + 1) := propext ⟨fun g => by omega, fun g => by omega⟩
  simp only [this]
theorem Z5 (l : List PcM) : (l.flatMap pcD).length = l.length * 4 := by
 induction l with
 | nil => rfl
 | cons p r ih => rw [qaL, qaD, ih, qaU]; show 4 + _ = _; omega
theorem VX {b : List Int} {k : Nat} (h : 256 < (b.drop (k * 256)).length) : (b.drop (k * 256)).take 256 = kY b k := by
 rw [qaZ] at h
 unfold kY
 rw [Nat.min_eq_right (by omega), show (k + 1) * 256 - k * 256 = 256 by omega]
theorem VY {b : List Int} {k : Nat} (h : (b.drop (k * 256)).length ≤ 256) : b.drop (k * 256) = kY b k := by
 unfold kY
 have h' := h
 rw [qaZ] at h'
 rw [qaX (by rw [qaZ]; omega)]
theorem qam {b : List Int} {k : Nat} (h2 : 0 < b.length) (hk : k = 0 ∨ k * 256 < b.length) (h : (b.drop (k * 256)).length ≤ 256) : k + 1 = mnN b := by
 rw [qaZ] at h
 unfold mnN
 omega
theorem Z6 (sn : Int) (b : List Int) (h1 : (snB sn && decide ((0 : Int) < (b.length : Int))) = false) : DFun Tryz.prog 20 [.val (.int .u64 sn), .slf 1 (b).length ((b).flatMap uc8)] [] (.tup [.val (.slice none 0 0), .val (.int .i64 2)]) [] := by
 refine zap (N := 54) 0 (by kernel_rfl) Tryz.func20 rfl rfl rfl (by simp only [fr0, qau, qaw]; exact rfl) rfl fun s0 hs0 => ?_
 refine kG (t := 1) rfl fun hl1 hL1 => ?_
 refine zah ?_
 refine zaa 2 rfl ?_
 refine zab ?_
 refine zae ?_
 refine zah ?_
 refine zaa 1 rfl ?_
 refine za rfl (zai [] [] [] rfl (ev1 rfl) (ec (ev1 rfl) en) rfl rfl (JD sn) rfl rfl rfl rfl rfl rfl) ?_
 refine za rfl (ko rfl (ev1 rfl)) ?_
 refine zaa 1 rfl ?_
 refine zak (qm rfl rfl rfl) rfl rfl rfl (zal (.inl rfl) (ev1 rfl)) ?_
 refine zak (qm rfl rfl rfl) rfl rfl rfl (qt rfl qu (ev2 rfl)) ?_
 refine zak (qm rfl rfl rfl) rfl rfl rfl (qv rfl (ev2 rfl) (ev1 rfl)) ?_
 refine za rfl (kA rfl (ev1 rfl) (ev3 rfl id)) ?_
 refine zab ?_
 refine qM rfl (by cases hs : snB sn with | false => rfl | true => (rw [hs, Bool.true_and, decide_eq_false_iff_not] at h1; rw [show b.length = 0 by omega]; simp)) ?_
 refine zah ?_
 refine zaa 2 rfl ?_
 refine zab ?_
 refine qb ?_
 refine qx (rs2 rfl (qJ rfl) (qJ rfl)) rfl ?_
 rfl
theorem Z7 (sn : Int) (b : List Int) (h1 : snB sn = true) (h3 : 16384 < b.length) : DFun Tryz.prog 20 [.val (.int .u64 sn), .slf 1 (b).length ((b).flatMap uc8)] [] (.tup [.val (.slice none 0 0), .val (.int .i64 3)]) [] := by
 refine zap (N := 54) 0 (by kernel_rfl) Tryz.func20 rfl rfl rfl (by simp only [fr0, qau, qaw]; exact rfl) rfl fun s0 hs0 => ?_
 refine kG (t := 1) rfl fun hl1 hL1 => ?_
 refine zah ?_
 refine zaa 2 rfl ?_
 refine zab ?_
 refine zae ?_
 refine zah ?_
 refine zaa 1 rfl ?_
 refine za rfl (zai [] [] [] rfl (ev1 rfl) (ec (ev1 rfl) en) rfl rfl (JD sn) rfl rfl rfl rfl rfl rfl) ?_
 refine za rfl (ko rfl (ev1 rfl)) ?_
 refine zaa 1 rfl ?_
 refine zak (qm rfl rfl rfl) rfl rfl rfl (zal (.inl rfl) (ev1 rfl)) ?_
 refine zak (qm rfl rfl rfl) rfl rfl rfl (qt rfl qu (ev2 rfl)) ?_
 refine zak (qm rfl rfl rfl) rfl rfl rfl (qv rfl (ev2 rfl) (ev1 rfl)) ?_
 refine za rfl (kA rfl (ev1 rfl) (ev3 rfl id)) ?_
 refine zab ?_
 refine qc rfl (by rw [h1]; simp; intro h; subst h; simp at h3) ?_
 refine zao ?_
 refine zae ?_
 refine zah ?_
 refine zaa 1 rfl ?_
 refine za rfl (qt rfl qu (ev1 rfl)) ?_
 refine za rfl (kE rfl (ev1 rfl) (ev1 rfl)) ?_
 refine zab ?_
 refine qM rfl (by simp; omega) ?_
 refine zah ?_
 refine zaa 2 rfl ?_
 refine zab ?_
 refine qb ?_
 refine qx (rs2 rfl (qJ rfl) (qJ rfl)) rfl ?_
 rfl
theorem qan (sn : Int) (b : List Int) (h1 : snB sn = true) (h2 : 0 < b.length) (h3 : b.length ≤ 16384) : DFun Tryz.prog 20 [.val (.int .u64 sn), .slf 1 (b).length ((b).flatMap uc8)] [] (.tup [.slm 4 ((y8 sn b)).length (((y8 sn b)).flatMap pcD), .val (.int .i64 0)]) [] := by
 refine zap (N := 54) 0 (by kernel_rfl) Tryz.func20 rfl rfl rfl (by simp only [fr0, qau, qaw]; exact rfl) rfl fun s0 hs0 => ?_
 refine kG (t := 1) rfl fun hl1 hL1 => ?_
 refine zah ?_
 refine zaa 2 rfl ?_
 refine zab ?_
 refine zae ?_
 refine zah ?_
 refine zaa 1 rfl ?_
 refine za rfl (zai [] [] [] rfl (ev1 rfl) (ec (ev1 rfl) en) rfl rfl (JD sn) rfl rfl rfl rfl rfl rfl) ?_
 refine za rfl (ko rfl (ev1 rfl)) ?_
 refine zaa 1 rfl ?_
 refine zak (qm rfl rfl rfl) rfl rfl rfl (zal (.inl rfl) (ev1 rfl)) ?_
 refine zak (qm rfl rfl rfl) rfl rfl rfl (qt rfl qu (ev2 rfl)) ?_
 refine zak (qm rfl rfl rfl) rfl rfl rfl (qv rfl (ev2 rfl) (ev1 rfl)) ?_
 refine za rfl (kA rfl (ev1 rfl) (ev3 rfl id)) ?_
 refine zab ?_
 refine qc rfl (by rw [h1]; simp; intro h; subst h; simp at h2) ?_
 refine zao ?_
 refine zae ?_
 refine zah ?_
 refine zaa 1 rfl ?_
 refine za rfl (qt rfl qu (ev1 rfl)) ?_
 refine za rfl (kE rfl (ev1 rfl) (ev1 rfl)) ?_
 refine zab ?_
 refine qc rfl (by simp; omega) ?_
 refine zao ?_
 refine zah ?_
 refine zaa 1 rfl ?_
 refine zab ?_
 refine zae ?_
 refine zas ?_
 refine Yu 6 53 4 rfl rfl rfl ?_
 refine qI ⟨hs0, rfl⟩ (α := Nat) (fun k => [(1, .slf 1 ((b.drop (k * 256))).length (((b.drop (k * 256))).flatMap uc8))]) [(0, _), (6, _)] (fun k => [(0, .arx 53 4 (k) ((dM sn b 0 0 k).flatMap pcD))]) [.hole] (fun k => k = 0 ∨ k * 256 < b.length) (fun k => b.length - k * 256) 0 [0] (.inl rfl) rfl ⟨rfl, rfl, trivial⟩ ⟨by rw [Nat.zero_mul, List.drop_zero]; rfl, trivial⟩ ⟨by rfl, trivial⟩ ?_
 intro k hx
 simp only [upd, zad, zaf, qaE, qaH]
 have hk := hx
 have hdl : (b.drop (k * 256)).length = b.length - k * 256 := qaZ
 refine zae ?_
 refine zah ?_
 refine zaa 1 rfl ?_
 refine za rfl (qt rfl qu (ev1 rfl)) ?_
 refine za rfl (kE rfl (ev1 rfl) (ev1 rfl)) ?_
 refine zab ?_
 refine qe rfl (fun c3 => ?_) (fun c3 => ?_)
 ·try simp only [decide_eq_true_eq, decide_eq_false_iff_not, beq_iff_eq, bne_iff_ne, beq_eq_false_iff_ne, bne_eq_false_iff_eq, qaz, qaA, qav, qaB, qax, ne_eq, Decidable.not_not, qaQ, qaR] at c3
  refine zao ?_
  refine zas ?_
  refine zae ?_
  refine zam 1 ?_
  refine zac ?_
  refine zaa 3 rfl ?_
  refine za rfl (wz rfl jV (ev1 rfl) rfl) ?_
  refine zaa 1 rfl ?_
  refine za rfl ((gF (j := 256) rfl qu (ev1 rfl) (kB (ev1 rfl)) (fun _ => by omega) (fun _ => by omega) (fun _ => rfl)).cast (d' := .slf 1 ((kY b k)).length (((kY b k)).flatMap uc8)) (by rw [VX (by omega)])) ?_
  refine za rfl (kX (ps := [(0, .tmp 23), (1, .tmp 25), (3, .tmp 27)]) rfl w9 k9 (ec (ev1 rfl) (ec (ev1 rfl) (ec (ev1 rfl) en))) rfl rfl rfl) ?_
  refine za rfl (zp (ps := [(0, .tmp 28)]) rfl jV k9 rfl (ec (ev1 rfl) en) rfl rfl rfl (by rfl) rfl (by decide) (by decide)) ?_
  refine zaj rfl (xO (j := 1) rfl jV k9 rfl (ev1 rfl) (ev1 rfl) rfl rfl (rfl) (fun _ => ⟨by omega, by omega⟩)) ?_
  refine zaa 1 rfl ?_
  refine zab ?_
  refine zac ?_
  refine zaa 1 rfl ?_
  refine za rfl (gG (i := 256) rfl qu (ev1 rfl) (kB (ev1 rfl)) (fun _ => by omega) (fun _ => by omega) (fun _ => rfl)) ?_
  refine zaa 1 rfl ?_
  refine zab ?_
  refine ⟨k + 1, [1], .inr (by omega), by show b.length - (k + 1) * 256 < b.length - k * 256; omega, rfl, ⟨by rw [List.drop_drop, show k * 256 + 256 = (k + 1) * 256 by omega]; rfl, rfl, rfl, trivial⟩, ⟨km rfl (by rw [QV, qbg]; rfl) (GZ _), trivial⟩⟩
 ·try simp only [decide_eq_true_eq, decide_eq_false_iff_not, beq_iff_eq, bne_iff_ne, beq_eq_false_iff_ne, bne_eq_false_iff_eq, qaz, qaA, qav, qaB, qax, ne_eq, Decidable.not_not, qaQ, qaR] at c3
  refine qr ?_
  refine zae ?_
  have hme := qam h2 hk (by omega)
  refine zam 1 ?_
  refine zac ?_
  refine zaa 3 rfl ?_
  refine za rfl (wz rfl jV (ev1 rfl) rfl) ?_
  refine zaa 1 rfl ?_
  refine za rfl (kX (ps := [(0, .tmp 34), (1, .tmp 36), (3, .tmp 37)]) rfl w9 k9 (ec (ev1 rfl) (ec (ev1 rfl) (ec (ev1 rfl) en))) rfl rfl rfl) ?_
  refine za rfl (zp (ps := [(0, .tmp 38)]) rfl jV k9 rfl (ec (ev1 rfl) en) rfl rfl rfl (by rfl) rfl (by decide) (by decide)) ?_
  refine zaj rfl (xO (j := 1) rfl jV k9 rfl (ev1 rfl) (ev1 rfl) rfl rfl (rfl) (fun _ => ⟨by omega, by omega⟩)) ?_
  refine zaa 1 rfl ?_
  refine zab ?_
  refine zae ?_
  refine zah ?_
  refine zaa 1 rfl ?_
  refine za rfl (wz rfl jV (ev1 rfl) rfl) ?_
  refine zaa 1 rfl ?_
  refine zab ?_
  refine zas ?_
  refine qI ⟨hs0, rfl⟩ (α := Nat) (fun i => [(43, .val (.int .i64 (i : Int)))]) [(6, _), (42, _)] (fun i => [(0, .arx 53 4 (mnN b) ((dM sn b (mnN b) i (mnN b)).flatMap pcD))]) [.hole] (fun i => i ≤ mnN b) (fun i => mnN b - i) 0 [1] (qa5 _) rfl ⟨rfl, rfl, trivial⟩ ⟨rfl, trivial⟩ ⟨by rw [VY (by omega)]; exact km hme (by rw [qaj, ← hme, QV, qbg]; rfl) (GZ _), trivial⟩ ?_
  intro i hx
  simp only [upd, zad, zaf, qaE, qaH]
  have hi := hx
  refine zah ?_
  refine za rfl (qA rfl (ev1 rfl) (ev1 rfl)) ?_
  refine zab ?_
  refine zae ?_
  refine qe rfl (fun c4 => ?_) (fun c4 => ?_)
  ·try simp only [decide_eq_true_eq, decide_eq_false_iff_not, beq_iff_eq, bne_iff_ne, beq_eq_false_iff_ne, bne_eq_false_iff_eq, qaz, qaA, qav, qaB, qax, ne_eq, Decidable.not_not, qaQ, qaR] at c4
   refine zao ?_
   refine zae ?_
   refine zas ?_
   refine zah ?_
   refine zaa 2 rfl ?_
   refine zab ?_
   refine zac ?_
   refine zaa 3 rfl ?_
   refine za rfl (wz rfl jV (ev1 rfl) rfl) ?_
   refine za rfl (vE (i) rfl jV (ev1 rfl) (ev1 rfl) rfl (fun _ => rfl) (fun _ => by omega)) ?_
   refine za rfl (HS rfl gp (ev1 rfl)) ?_
   refine zar rfl (Z3 rfl tb3 (ev1 rfl) (ev1 rfl) rfl (by rw [Z5, zV]; omega) (fun s v h => by cases h <;> exact ⟨rfl, rfl⟩)) ?_
   refine zab ?_
   refine zac ?_
   refine za rfl (qh rfl (ev1 rfl) (ev1 rfl) (fun _ => qaC _ (by omega))) ?_
   refine zaa 1 rfl ?_
   refine zab ?_
   refine ⟨i + 1, [0], by omega, by simp only []; omega, rfl, ⟨rfl, rfl, rfl, trivial⟩, ⟨by rw [qal (by omega)]; exact JC rfl rfl, trivial⟩⟩
  ·try simp only [decide_eq_true_eq, decide_eq_false_iff_not, beq_iff_eq, bne_iff_ne, beq_eq_false_iff_ne, bne_eq_false_iff_eq, qaz, qaA, qav, qaB, qax, ne_eq, Decidable.not_not, qaQ, qaR] at c4
   refine qr ?_
   refine zae ?_
   refine WE 6 (GZ _) rfl rfl (by simp only [zad, zaf]; exact rfl) ?_
   obtain rfl : i = mnN b := by omega
   rw [qak]
   refine zac ?_
   refine zaa 3 rfl ?_
   refine zab ?_
   refine qb ?_
   refine qx (rs2 rfl (qJ rfl) (qJ rfl)) rfl ?_
   rw [uT]
end Go.Proofs.YtofklkbfkoliiaaGreat
namespace Go.Proofs.YtofklkbfkoliiaaGreat
set_option linter.unusedVariables false
set_option linter.unusedSimpArgs false
open Go.RowKit
attribute [local irreducible] tkN jK ky mnN
noncomputable def G7 : Code := rfA (pth [1, 0, 1, 1, 1, 0, 1, 0] (y1 Tryz.f23))
noncomputable def G8 : Code := rfB (pth [1, 0, 1, 1, 1, 0, 1, 0] (y1 Tryz.f23))
theorem HH (j : Int) (x : PcM) (hx : x.ix ≠ j) : DRound Tryz.prog 0 [.agg (pcD x)] [.lp none 26 [(5, .loc 1 0), (8, .loc 2 0)] #[15] G7 G8 .ready none, .flat 3 [.int .i64 j], .flat 53 [.int .u64 0, .int .i64 0, .int .i64 0, .slice none 0 0]] true [.lp none 26 [(5, .loc 1 0), (8, .loc 2 0)] #[15] G7 G8 .ready none, .flat 3 [.int .i64 j], .flat 53 [.int .u64 0, .int .i64 0, .int .i64 0, .slice none 0 0]] := by
 refine gb 3 rfl rfl (by simp) rfl rfl fun s0 hs0 => ?_
 refine zam 1 ?_
 refine zac ?_
 refine zaj rfl (zan 3 rfl k9 rfl) ?_
 refine zar rfl (kt rfl kx (ev1 rfl) (ev1 rfl) rfl rfl rfl rfl) ?_
 refine zab ?_
 refine ⟨rfl, ?_⟩
 simp only [zad, zaf]
 refine zas ?_
 refine zah ?_
 refine za rfl (qa rfl yi (ev1 rfl)) ?_
 refine za rfl (zaq rfl tb3 (ev1 rfl) rfl rfl) ?_
 refine za rfl (qi rfl tb3 (ev1 rfl) rfl rfl) ?_
 refine za rfl (qv rfl (ev1 rfl) (ev1 rfl)) ?_
 refine zab ?_
 refine qc rfl (by simpa using hx) ?_
 refine zao ?_
 refine ⟨rfl, rfl, [0, 1, 2], rfl, ⟨rfl, rfl, rfl, trivial⟩⟩
theorem pceAt (j : Int) (x : PcM) (hx : x.ix = j) : DRound Tryz.prog 0 [.agg (pcD x)] [.lp none 26 [(5, .loc 1 0), (8, .loc 2 0)] #[15] G7 G8 .ready none, .flat 3 [.int .i64 j], .flat 53 [.int .u64 0, .int .i64 0, .int .i64 0, .slice none 0 0]] false [.lp none 26 [(5, .loc 1 0), (8, .loc 2 0)] #[15] G7 G8 .done (some (.exit 0)), .flat 3 [.int .i64 j], .mix 53 (pcD x)] := by
 refine gb 3 rfl rfl (by simp) rfl rfl fun s0 hs0 => ?_
 refine zam 1 ?_
 refine zac ?_
 refine zaj rfl (zan 3 rfl k9 rfl) ?_
 refine zar rfl (kt rfl kx (ev1 rfl) (ev1 rfl) rfl rfl rfl rfl) ?_
 refine zab ?_
 refine ⟨rfl, ?_⟩
 simp only [zad, zaf]
 refine zas ?_
 refine zah ?_
 refine za rfl (qa rfl yi (ev1 rfl)) ?_
 refine za rfl (zaq rfl tb3 (ev1 rfl) rfl rfl) ?_
 refine za rfl (qi rfl tb3 (ev1 rfl) rfl rfl) ?_
 refine za rfl (qv rfl (ev1 rfl) (ev1 rfl)) ?_
 refine zab ?_
 refine qM rfl (by simpa using hx) ?_
 refine zah ?_
 refine za rfl (qo rfl kx (ev1 rfl) rfl rfl) ?_
 refine zar rfl (kt rfl kx (ev1 rfl) (ev1 rfl) rfl rfl rfl rfl) ?_
 refine zab ?_
 refine qr ?_
 refine ⟨rfl, rfl, [0, 1, 2], rfl, ⟨rfl, rfl, rfl, trivial⟩⟩
theorem Z8 (sn : Int) (b : List Int) (j : Int) (h2 : 0 < b.length) (h3 : b.length ≤ 16384) (hj : ¬ (0 ≤ j ∧ j < mnN b)) : DFun Tryz.prog 101 [.yld 0, .loc 3 0, .loc 4 0, .loc 5 0] [.lp none 26 [(5, .loc 1 0), (8, .loc 2 0)] #[15] G7 G8 .ready none, .flat 3 [.int .i64 j], .flat 53 [.int .u64 0, .int .i64 0, .int .i64 0, .slice none 0 0], .flat 3 [.int .i64 (mnN b : Nat)], .mix 30 [.slf 1 (b).length ((b).flatMap uc8)], .flat 25 [.int .u64 sn]] (.tup []) [.lp none 26 [(5, .loc 1 0), (8, .loc 2 0)] #[15] G7 G8 .ready none, .flat 3 [.int .i64 j], .flat 53 [.int .u64 0, .int .i64 0, .int .i64 0, .slice none 0 0], .flat 3 [.int .i64 (mnN b : Nat)], .mix 30 [.slf 1 (b).length ((b).flatMap uc8)], .flat 25 [.int .u64 sn]] := by
 have hmn : mnN b = (b.length + 255) / 256 := by unfold mnN; rfl
 refine zap (N := 34) 6 (by kernel_rfl) Tryz.func101 rfl rfl rfl (by simp only [fr0, qau, qaw]; exact rfl) rfl fun s0 hs0 => ?_
 refine zah ?_
 refine za rfl (qi rfl tb3 (ev1 rfl) rfl rfl) ?_
 refine zaa 1 rfl ?_
 refine zab ?_
 refine zas ?_
 refine qI ⟨hs0, rfl⟩ (α := Nat) (fun k => [(9, .val (.int .i64 (k : Int)))]) [(0, _), (1, _), (2, _), (3, _), (8, _)] (fun k => []) [_, _, _, _, _, _] (fun k => k ≤ mnN b) (fun k => mnN b - k) 0 [0, 1, 2, 3, 4, 5] (qa5 _) rfl ⟨rfl, rfl, rfl, rfl, rfl, trivial⟩ ⟨rfl, trivial⟩ ⟨rfl, rfl, rfl, rfl, rfl, rfl, trivial⟩ ?_
 intro k hx
 simp only [upd, zad, zaf, qaE, qaH]
 have hk := hx
 refine zah ?_
 refine za rfl (qA rfl (ev1 rfl) (ev1 rfl)) ?_
 refine zab ?_
 refine zae ?_
 refine qe rfl (fun c1 => ?_) (fun c1 => ?_)
 ·try simp only [decide_eq_true_eq, decide_eq_false_iff_not, beq_iff_eq, bne_iff_ne, beq_eq_false_iff_ne, bne_eq_false_iff_eq, qaz, qaA, qav, qaB, qax, ne_eq, Decidable.not_not, qaQ, qaR] at c1
  refine zao ?_
  refine zae ?_
  refine zas ?_
  refine zah ?_
  refine zaa 2 rfl ?_
  refine zab ?_
  refine zae ?_
  refine qg [([], []), ([], []), ([4], []), ([], []), ([], []), ([], []), ([], []), ([], []), ([], []), ([], [])] qU (by kernel_rfl) ?_
  refine zag rfl rfl (zal (.inl rfl) (ev1 rfl)) ?_
  refine zag rfl rfl (jp rfl (ev1 rfl) (ev1 rfl) (fun _ => qaC _ (by omega))) ?_
  refine zag rfl rfl (zaq rfl kC (ev1 rfl) rfl rfl) ?_
  refine zag rfl rfl (qt rfl qu (ev1 rfl)) ?_
  refine zag rfl rfl (zal (.inl rfl) (ev1 rfl)) ?_
  refine zag rfl rfl (qh rfl (ev1 rfl) (ev1 rfl) (fun _ => qaC _ (by omega))) ?_
  refine zag rfl rfl (jp rfl (ev1 rfl) (ev1 rfl) (fun _ => qaC _ (by omega))) ?_
  refine zag rfl rfl (yF rfl (ev1 rfl) (ev1 rfl)) ?_
  refine zag rfl rfl (zal (.inr rfl) (ev1 rfl)) ?_
  refine zag rfl rfl (zal (.inr rfl) (ev1 rfl)) ?_
  refine qp ?_
  refine zae ?_
  refine qg [([], []), ([5], []), ([], []), ([3], []), ([4], []), ([], []), ([], []), ([], []), ([], []), ([], []), ([], []), ([0, 1, 2], [0, 1, 2]), ([], [])] qU (by kernel_rfl) ?_
  refine zag rfl rfl (zal (.inl rfl) (ev1 rfl)) ?_
  refine zag rfl rfl (qi rfl ku (ev1 rfl) rfl rfl) ?_
  refine zag rfl rfl (zal (.inl rfl) (ev1 rfl)) ?_
  refine zag rfl rfl (qi rfl tb3 (ev1 rfl) rfl rfl) ?_
  refine zag rfl rfl (zaq rfl kC (ev1 rfl) rfl rfl) ?_
  refine zag rfl rfl (zal (.inl rfl) (ev1 rfl)) ?_
  refine zag rfl rfl (zal (.inl rfl) (ev1 rfl)) ?_
  refine zag rfl rfl (zal (.inl rfl) (ev1 rfl)) ?_
  refine zag rfl rfl (yq (i := k * 256) (j := min b.length ((k + 1) * 256)) rfl qu (ev1 rfl) (ev1 rfl) (ev1 rfl) (ev1 rfl) (fun hp => by first | omega | (simp at hp; omega)) (fun hp => by first | omega | (simp at hp; omega)) (fun hp => by first | omega | (simp at hp; omega)) (fun hp => by first | omega | (simp at hp; omega)) (fun _ => rfl)) ?_
  refine zag rfl rfl (zai [] [] [] rfl (ev1 rfl) (ec (ev1 rfl) en) rfl rfl (jP (kY b k) (by have := ge b k; omega)) rfl rfl rfl rfl rfl rfl) ?_
  refine zag rfl rfl (kX (ps := [(0, .tmp 21), (1, .tmp 22), (2, .tmp 23), (3, .tmp 29)]) rfl w9 k9 (ec (ev1 rfl) (ec (ev1 rfl) (ec (ev1 rfl) (ec (ev1 rfl) en)))) rfl rfl rfl) ?_
  refine gf rfl rfl (u6 (i := 0) [0, 1, 2] [] [] rfl (ev1 rfl) (ec (ev1 rfl) en) rfl rfl rfl (HH j (pcK sn b k) (by show (k : Int) ≠ j; omega)) rfl rfl rfl rfl rfl) rfl (by simp only [upd, zad, zaf]; exact rfl) ?_
  refine zag rfl rfl (ko rfl (ev1 rfl)) ?_
  refine qp ?_
  refine qc rfl (rfl) ?_
  refine zao ?_
  refine zac ?_
  refine za rfl (qh rfl (ev1 rfl) (ev1 rfl) (fun _ => qaC _ (by omega))) ?_
  refine zaa 1 rfl ?_
  refine zab ?_
  refine ⟨k + 1, [0, 1, 2, 3, 4, 5], by omega, by simp only []; omega, rfl, ⟨rfl, rfl, rfl, rfl, rfl, rfl, trivial⟩, ⟨rfl, rfl, rfl, rfl, rfl, rfl, trivial⟩⟩
 ·try simp only [decide_eq_true_eq, decide_eq_false_iff_not, beq_iff_eq, bne_iff_ne, beq_eq_false_iff_ne, bne_eq_false_iff_eq, qaz, qaA, qav, qaB, qax, ne_eq, Decidable.not_not, qaQ, qaR] at c1
  refine qr ?_
  refine qY [0, 1, 2, 3, 4, 5] (qF rfl) rfl rfl ?_ ⟨rfl, rfl, rfl, rfl, rfl, rfl, trivial⟩
  rfl
theorem qao (sn : Int) (b : List Int) (j : Int) (h2 : 0 < b.length) (h3 : b.length ≤ 16384) (i : Nat) (hi : i < mnN b) (hj : j = i) : DFun Tryz.prog 101 [.yld 0, .loc 3 0, .loc 4 0, .loc 5 0] [.lp none 26 [(5, .loc 1 0), (8, .loc 2 0)] #[15] G7 G8 .ready none, .flat 3 [.int .i64 j], .flat 53 [.int .u64 0, .int .i64 0, .int .i64 0, .slice none 0 0], .flat 3 [.int .i64 (mnN b : Nat)], .mix 30 [.slf 1 (b).length ((b).flatMap uc8)], .flat 25 [.int .u64 sn]] (.tup []) [.lp none 26 [(5, .loc 1 0), (8, .loc 2 0)] #[15] G7 G8 .done (some (.exit 0)), .flat 3 [.int .i64 j], .mix 53 (pcD (pcK sn b i)), .flat 3 [.int .i64 (mnN b : Nat)], .mix 30 [.slf 1 (b).length ((b).flatMap uc8)], .flat 25 [.int .u64 sn]] := by
 have hmn : mnN b = (b.length + 255) / 256 := by unfold mnN; rfl
 refine zap (N := 34) 6 (by kernel_rfl) Tryz.func101 rfl rfl rfl (by simp only [fr0, qau, qaw]; exact rfl) rfl fun s0 hs0 => ?_
 refine zah ?_
 refine za rfl (qi rfl tb3 (ev1 rfl) rfl rfl) ?_
 refine zaa 1 rfl ?_
 refine zab ?_
 refine zas ?_
 refine qI ⟨hs0, rfl⟩ (α := Nat) (fun k => [(9, .val (.int .i64 (k : Int)))]) [(0, _), (1, _), (2, _), (3, _), (8, _)] (fun k => []) [_, _, _, _, _, _] (fun k => k ≤ i) (fun k => mnN b - k) 0 [0, 1, 2, 3, 4, 5] (qa5 _) rfl ⟨rfl, rfl, rfl, rfl, rfl, trivial⟩ ⟨rfl, trivial⟩ ⟨rfl, rfl, rfl, rfl, rfl, rfl, trivial⟩ ?_
 intro k hx
 simp only [upd, zad, zaf, qaE, qaH]
 have hk := hx
 refine zah ?_
 refine za rfl (qA rfl (ev1 rfl) (ev1 rfl)) ?_
 refine zab ?_
 refine zae ?_
 refine qe rfl (fun c1 => ?_) (fun c1 => ?_)
 ·try simp only [decide_eq_true_eq, decide_eq_false_iff_not, beq_iff_eq, bne_iff_ne, beq_eq_false_iff_ne, bne_eq_false_iff_eq, qaz, qaA, qav, qaB, qax, ne_eq, Decidable.not_not, qaQ, qaR] at c1
  refine zao ?_
  refine zae ?_
  refine zas ?_
  refine zah ?_
  refine zaa 2 rfl ?_
  refine zab ?_
  refine zae ?_
  refine qg [([], []), ([], []), ([4], []), ([], []), ([], []), ([], []), ([], []), ([], []), ([], []), ([], [])] qU (by kernel_rfl) ?_
  refine zag rfl rfl (zal (.inl rfl) (ev1 rfl)) ?_
  refine zag rfl rfl (jp rfl (ev1 rfl) (ev1 rfl) (fun _ => qaC _ (by omega))) ?_
  refine zag rfl rfl (zaq rfl kC (ev1 rfl) rfl rfl) ?_
  refine zag rfl rfl (qt rfl qu (ev1 rfl)) ?_
  refine zag rfl rfl (zal (.inl rfl) (ev1 rfl)) ?_
  refine zag rfl rfl (qh rfl (ev1 rfl) (ev1 rfl) (fun _ => qaC _ (by omega))) ?_
  refine zag rfl rfl (jp rfl (ev1 rfl) (ev1 rfl) (fun _ => qaC _ (by omega))) ?_
  refine zag rfl rfl (yF rfl (ev1 rfl) (ev1 rfl)) ?_
  refine zag rfl rfl (zal (.inr rfl) (ev1 rfl)) ?_
  refine zag rfl rfl (zal (.inr rfl) (ev1 rfl)) ?_
  refine qp ?_
  refine zae ?_
  by_cases hki : k = i
  ·subst hki
   refine qg [([], []), ([5], []), ([], []), ([3], []), ([4], []), ([], []), ([], []), ([], []), ([], []), ([], []), ([], []), ([0, 1, 2], [0, 1, 2]), ([], [])] qU (by kernel_rfl) ?_
   refine zag rfl rfl (zal (.inl rfl) (ev1 rfl)) ?_
   refine zag rfl rfl (qi rfl ku (ev1 rfl) rfl rfl) ?_
   refine zag rfl rfl (zal (.inl rfl) (ev1 rfl)) ?_
   refine zag rfl rfl (qi rfl tb3 (ev1 rfl) rfl rfl) ?_
   refine zag rfl rfl (zaq rfl kC (ev1 rfl) rfl rfl) ?_
   refine zag rfl rfl (zal (.inl rfl) (ev1 rfl)) ?_
   refine zag rfl rfl (zal (.inl rfl) (ev1 rfl)) ?_
   refine zag rfl rfl (zal (.inl rfl) (ev1 rfl)) ?_
   refine zag rfl rfl (yq (i := k * 256) (j := min b.length ((k + 1) * 256)) rfl qu (ev1 rfl) (ev1 rfl) (ev1 rfl) (ev1 rfl) (fun hp => by first | omega | (simp at hp; omega)) (fun hp => by first | omega | (simp at hp; omega)) (fun hp => by first | omega | (simp at hp; omega)) (fun hp => by first | omega | (simp at hp; omega)) (fun _ => rfl)) ?_
   refine zag rfl rfl (zai [] [] [] rfl (ev1 rfl) (ec (ev1 rfl) en) rfl rfl (jP (kY b k) (by have := ge b k; omega)) rfl rfl rfl rfl rfl rfl) ?_
   refine zag rfl rfl (kX (ps := [(0, .tmp 21), (1, .tmp 22), (2, .tmp 23), (3, .tmp 29)]) rfl w9 k9 (ec (ev1 rfl) (ec (ev1 rfl) (ec (ev1 rfl) (ec (ev1 rfl) en)))) rfl rfl rfl) ?_
   refine gf rfl rfl (u6 (i := 0) [0, 1, 2] [] [] rfl (ev1 rfl) (ec (ev1 rfl) en) rfl rfl rfl (pceAt j (pcK sn b k) hj.symm) rfl rfl rfl rfl rfl) rfl (by simp only [upd, zad, zaf]; exact rfl) ?_
   refine zag rfl rfl (ko rfl (ev1 rfl)) ?_
   refine qp ?_
   refine qM rfl (rfl) ?_
   refine qb ?_
   refine qY [0, 1, 2, 3, 4, 5] (qF rfl) rfl rfl ?_ ⟨rfl, rfl, rfl, rfl, rfl, rfl, trivial⟩
   rfl
  ·refine qg [([], []), ([5], []), ([], []), ([3], []), ([4], []), ([], []), ([], []), ([], []), ([], []), ([], []), ([], []), ([0, 1, 2], [0, 1, 2]), ([], [])] qU (by kernel_rfl) ?_
   refine zag rfl rfl (zal (.inl rfl) (ev1 rfl)) ?_
   refine zag rfl rfl (qi rfl ku (ev1 rfl) rfl rfl) ?_
   refine zag rfl rfl (zal (.inl rfl) (ev1 rfl)) ?_
   refine zag rfl rfl (qi rfl tb3 (ev1 rfl) rfl rfl) ?_
   refine zag rfl rfl (zaq rfl kC (ev1 rfl) rfl rfl) ?_
   refine zag rfl rfl (zal (.inl rfl) (ev1 rfl)) ?_
   refine zag rfl rfl (zal (.inl rfl) (ev1 rfl)) ?_
   refine zag rfl rfl (zal (.inl rfl) (ev1 rfl)) ?_
   refine zag rfl rfl (yq (i := k * 256) (j := min b.length ((k + 1) * 256)) rfl qu (ev1 rfl) (ev1 rfl) (ev1 rfl) (ev1 rfl) (fun hp => by first | omega | (simp at hp; omega)) (fun hp => by first | omega | (simp at hp; omega)) (fun hp => by first | omega | (simp at hp; omega)) (fun hp => by first | omega | (simp at hp; omega)) (fun _ => rfl)) ?_
   refine zag rfl rfl (zai [] [] [] rfl (ev1 rfl) (ec (ev1 rfl) en) rfl rfl (jP (kY b k) (by have := ge b k; omega)) rfl rfl rfl rfl rfl rfl) ?_
   refine zag rfl rfl (kX (ps := [(0, .tmp 21), (1, .tmp 22), (2, .tmp 23), (3, .tmp 29)]) rfl w9 k9 (ec (ev1 rfl) (ec (ev1 rfl) (ec (ev1 rfl) (ec (ev1 rfl) en)))) rfl rfl rfl) ?_
   refine gf rfl rfl (u6 (i := 0) [0, 1, 2] [] [] rfl (ev1 rfl) (ec (ev1 rfl) en) rfl rfl rfl (HH j (pcK sn b k) (by show (k : Int) ≠ j; omega)) rfl rfl rfl rfl rfl) rfl (by simp only [upd, zad, zaf]; exact rfl) ?_
   refine zag rfl rfl (ko rfl (ev1 rfl)) ?_
   refine qp ?_
   refine qc rfl (rfl) ?_
   refine zao ?_
   refine zac ?_
   refine za rfl (qh rfl (ev1 rfl) (ev1 rfl) (fun _ => qaC _ (by omega))) ?_
   refine zaa 1 rfl ?_
   refine zab ?_
   refine ⟨k + 1, [0, 1, 2, 3, 4, 5], by omega, by simp only []; omega, rfl, ⟨rfl, rfl, rfl, rfl, rfl, rfl, trivial⟩, ⟨rfl, rfl, rfl, rfl, rfl, rfl, trivial⟩⟩
 ·exact absurd c1 (by simp; omega)
theorem qap (sn : Int) (b : List Int) (j : Int) (h1 : (snB sn && decide ((0 : Int) < (b.length : Int))) = false) : DFun Tryz.prog 23 [.val (.int .u64 sn), .slf 1 (b).length ((b).flatMap uc8), .val (.int .i64 j)] [] (.tup [.val (.agg #[.int .u64 0, .int .i64 0, .int .i64 0, .slice none 0 0]), .val (.int .i64 2)]) [] := by
 refine qj (N := 26) 0 (by kernel_rfl) Tryz.func23 rfl rfl rfl (by simp only [fr0, qau, qaw]; exact rfl) rfl fun s0 hs0 => ?_
 refine qD rfl hs0 ?_
 refine zam 3 ?_
 refine zac ?_
 refine zaj rfl (gD 0 rfl (ev1 rfl) rfl) ?_
 refine zaj rfl (zan 1 rfl k9 rfl) ?_
 refine zaj rfl (zan 2 rfl jO rfl) ?_
 refine zab ?_
 refine yW (m := 0) ?_
 refine qn (l0 := [_]) rfl rfl rfl rfl rfl hs0 ?_
 refine za rfl (qV rfl en (ec (ev1 rfl) en)) ?_
 refine zab ⟨_, _, _, 3, ev1 rfl, qaM hs0 (by decide), rfl, ?_⟩
 have hs1 : s0.M.length ≤ 3 := qaM hs0 (by decide)
 refine qC rfl hs0 ?_
 refine zae ?_
 refine zam 1 ?_
 refine zac ?_
 refine za rfl (kW rfl w9 k9) ?_
 refine zaj rfl (zan 3 rfl k9 rfl) ?_
 refine zar rfl (qQ rfl kx (ev1 rfl) (ev1 rfl) rfl rfl rfl rfl) ?_
 refine zab ?_
 refine zae ?_
 refine gR ?_
 refine zae ?_
 refine zah ?_
 refine zaa 2 rfl ?_
 refine qZ rfl (qE [] [] [] rfl (ev1 rfl) (ec (ev1 rfl) (ec (ev1 rfl) en)) rfl rfl (U4 sn b h1) rfl rfl rfl rfl rfl rfl) rfl ?_
 refine jI (qL [2] [] rfl rfl rfl (yL _ _) rfl rfl rfl rfl rfl) ?_
 refine qx (rs2 rfl (yM kx rfl rfl rfl) (js qT rfl rfl rfl)) rfl ?_
 rfl
theorem qaq (sn : Int) (b : List Int) (j : Int) (h1 : snB sn = true) (h3 : 16384 < b.length) : DFun Tryz.prog 23 [.val (.int .u64 sn), .slf 1 (b).length ((b).flatMap uc8), .val (.int .i64 j)] [] (.tup [.val (.agg #[.int .u64 0, .int .i64 0, .int .i64 0, .slice none 0 0]), .val (.int .i64 3)]) [] := by
 refine qj (N := 26) 0 (by kernel_rfl) Tryz.func23 rfl rfl rfl (by simp only [fr0, qau, qaw]; exact rfl) rfl fun s0 hs0 => ?_
 refine qD rfl hs0 ?_
 refine zam 3 ?_
 refine zac ?_
 refine zaj rfl (gD 0 rfl (ev1 rfl) rfl) ?_
 refine zaj rfl (zan 1 rfl k9 rfl) ?_
 refine zaj rfl (zan 2 rfl jO rfl) ?_
 refine zab ?_
 refine yW (m := 0) ?_
 refine qn (l0 := [_]) rfl rfl rfl rfl rfl hs0 ?_
 refine za rfl (qV rfl en (ec (ev1 rfl) en)) ?_
 refine zab ⟨_, _, _, 3, ev1 rfl, qaM hs0 (by decide), rfl, ?_⟩
 have hs1 : s0.M.length ≤ 3 := qaM hs0 (by decide)
 refine qC rfl hs0 ?_
 refine zae ?_
 refine zam 1 ?_
 refine zac ?_
 refine za rfl (kW rfl w9 k9) ?_
 refine zaj rfl (zan 3 rfl k9 rfl) ?_
 refine zar rfl (qQ rfl kx (ev1 rfl) (ev1 rfl) rfl rfl rfl rfl) ?_
 refine zab ?_
 refine zae ?_
 refine gR ?_
 refine zae ?_
 refine zah ?_
 refine zaa 2 rfl ?_
 refine qZ rfl (qE [] [] [] rfl (ev1 rfl) (ec (ev1 rfl) (ec (ev1 rfl) en)) rfl rfl (U5 sn b h1 h3) rfl rfl rfl rfl rfl rfl) rfl ?_
 refine jI (qL [2] [] rfl rfl rfl (yL _ _) rfl rfl rfl rfl rfl) ?_
 refine qx (rs2 rfl (yM kx rfl rfl rfl) (js qT rfl rfl rfl)) rfl ?_
 rfl
theorem qar (sn : Int) (b : List Int) (j : Int) (h2 : 0 < b.length) (h3 : b.length ≤ 16384) (h1 : snB sn = true) (hj : ¬ (0 ≤ j ∧ j < mnN b)) : DFun Tryz.prog 23 [.val (.int .u64 sn), .slf 1 (b).length ((b).flatMap uc8), .val (.int .i64 j)] [] (.tup [.val (.agg #[.int .u64 0, .int .i64 0, .int .i64 0, .slice none 0 0]), .val (.int .i64 2)]) [] := by
 refine qj (N := 26) 0 (by kernel_rfl) Tryz.func23 rfl rfl rfl (by simp only [fr0, qau, qaw]; exact rfl) rfl fun s0 hs0 => ?_
 refine qD rfl hs0 ?_
 refine zam 3 ?_
 refine zac ?_
 refine zaj rfl (gD 0 rfl (ev1 rfl) rfl) ?_
 refine zaj rfl (zan 1 rfl k9 rfl) ?_
 refine zaj rfl (zan 2 rfl jO rfl) ?_
 refine zab ?_
 refine yW (m := 0) ?_
 refine qn (l0 := [_]) rfl rfl rfl rfl rfl hs0 ?_
 refine za rfl (qV rfl en (ec (ev1 rfl) en)) ?_
 refine zab ⟨_, _, _, 3, ev1 rfl, qaM hs0 (by decide), rfl, ?_⟩
 have hs1 : s0.M.length ≤ 3 := qaM hs0 (by decide)
 refine qC rfl hs0 ?_
 refine zae ?_
 refine zam 1 ?_
 refine zac ?_
 refine za rfl (kW rfl w9 k9) ?_
 refine zaj rfl (zan 3 rfl k9 rfl) ?_
 refine zar rfl (qQ rfl kx (ev1 rfl) (ev1 rfl) rfl rfl rfl rfl) ?_
 refine zab ?_
 refine zae ?_
 refine gR ?_
 refine zae ?_
 refine zae ?_
 refine zam 3 ?_
 refine zac ?_
 refine zaa 2 rfl ?_
 refine zaj rfl (zai [] [] [4, 5, 6] rfl (ev1 rfl) (ec (ev1 rfl) (ec (ev1 rfl) en)) rfl rfl (QP sn b h1 h2 h3) rfl rfl rfl rfl rfl rfl) ?_
 refine zab ?_
 refine zas ?_
 refine jL ?_
 simp only [qaE, qaH]
 refine u7 (FL := [(5, _), (8, _)]) (st := .ready) (pe := none) [7, 0, 3, 4, 5, 6] [] [] 7 rfl rfl (ev1 rfl) rfl (yl ⟨rfl, rfl, trivial⟩) rfl rfl rfl (Z8 sn b j h2 h3 hj) rfl rfl rfl rfl rfl rfl rfl (by simp) (fun e => ?_) (fun c e => ?_)
 ·simp only [upd, zad, zaf]
  refine zah ?_
  refine za rfl (qa rfl gp (ev1 rfl)) ?_
  refine za rfl (qi rfl tb3 (ev1 rfl) rfl rfl) ?_
  refine za rfl (kE rfl (ev1 rfl) (ev1 rfl)) ?_
  refine qZ rfl (qE [] [] [] rfl (ev1 rfl) (ec (ev1 rfl) (ec (ev1 rfl) en)) rfl rfl (j4 _ _ (rfl)) rfl rfl rfl rfl rfl rfl) rfl ?_
  refine jI (qL [2] [] rfl rfl rfl (yL _ _) rfl rfl rfl rfl rfl) ?_
  refine qx (rs2 rfl (yM kx rfl rfl rfl) (js qT rfl rfl rfl)) rfl ?_
  rfl
 ·cases e
theorem spc_y (sn : Int) (b : List Int) (j : Int) (h2 : 0 < b.length) (h3 : b.length ≤ 16384) (h1 : snB sn = true) (i : Nat) (hi : i < mnN b) (hj : j = i) : DFun Tryz.prog 23 [.val (.int .u64 sn), .slf 1 (b).length ((b).flatMap uc8), .val (.int .i64 j)] [] (.tup [.agg (pcD (pcK sn b i)), .val (.int .i64 0)]) [] := by
 refine qj (N := 26) 0 (by kernel_rfl) Tryz.func23 rfl rfl rfl (by simp only [fr0, qau, qaw]; exact rfl) rfl fun s0 hs0 => ?_
 refine qD rfl hs0 ?_
 refine zam 3 ?_
 refine zac ?_
 refine zaj rfl (gD 0 rfl (ev1 rfl) rfl) ?_
 refine zaj rfl (zan 1 rfl k9 rfl) ?_
 refine zaj rfl (zan 2 rfl jO rfl) ?_
 refine zab ?_
 refine yW (m := 0) ?_
 refine qn (l0 := [_]) rfl rfl rfl rfl rfl hs0 ?_
 refine za rfl (qV rfl en (ec (ev1 rfl) en)) ?_
 refine zab ⟨_, _, _, 3, ev1 rfl, qaM hs0 (by decide), rfl, ?_⟩
 have hs1 : s0.M.length ≤ 3 := qaM hs0 (by decide)
 refine qC rfl hs0 ?_
 refine zae ?_
 refine zam 1 ?_
 refine zac ?_
 refine za rfl (kW rfl w9 k9) ?_
 refine zaj rfl (zan 3 rfl k9 rfl) ?_
 refine zar rfl (qQ rfl kx (ev1 rfl) (ev1 rfl) rfl rfl rfl rfl) ?_
 refine zab ?_
 refine zae ?_
 refine gR ?_
 refine zae ?_
 refine zae ?_
 refine zam 3 ?_
 refine zac ?_
 refine zaa 2 rfl ?_
 refine zaj rfl (zai [] [] [4, 5, 6] rfl (ev1 rfl) (ec (ev1 rfl) (ec (ev1 rfl) en)) rfl rfl (QP sn b h1 h2 h3) rfl rfl rfl rfl rfl rfl) ?_
 refine zab ?_
 refine zas ?_
 refine jL ?_
 simp only [qaE, qaH]
 refine u7 (FL := [(5, _), (8, _)]) (st := .done) (pe := (some (.exit 0))) [7, 0, 3, 4, 5, 6] [] [] 7 rfl rfl (ev1 rfl) rfl (yl ⟨rfl, rfl, trivial⟩) rfl rfl rfl (qao sn b j h2 h3 i hi hj) rfl rfl rfl rfl rfl rfl rfl (by simp) (fun e => ?_) (fun c e => ?_)
 ·cases e
 ·obtain rfl : c = .exit 0 := (qay e).symm
  simp only [upd, zad, zaf]
  refine qr ?_
  refine zah ?_
  refine za rfl (qa rfl gp (ev1 rfl)) ?_
  refine za rfl (zaq rfl tb3 (ev1 rfl) rfl rfl) ?_
  refine za rfl (kE rfl (ev1 rfl) (ev1 rfl)) ?_
  refine za rfl (zai [] [] [] rfl (ev1 rfl) (ec (ev1 rfl) (ec (ev1 rfl) en)) rfl rfl (kc _ _ (decide_eq_true (show (0 : Int) < ((mnN b : Nat) : Int) by omega))) rfl rfl rfl rfl rfl rfl) ?_
  refine zab ?_
  refine zah ?_
  refine za rfl (qo rfl kx (ev1 rfl) rfl rfl) ?_
  refine zar rfl (kt rfl kx (ev1 rfl) (ev1 rfl) rfl rfl rfl rfl) ?_
  refine zar rfl (qH rfl qT (ev1 rfl) (ev1 rfl) rfl) ?_
  refine zab ?_
  refine qb ?_
  refine jI (kF [2] [] rfl rfl (Jz _) rfl rfl rfl rfl rfl) ?_
  refine qx (rs2 rfl (we kx rfl rfl rfl) (js qT rfl rfl rfl)) rfl ?_
  rfl
end Go.Proofs.YtofklkbfkoliiaaGreat
namespace Go.Proofs.YtofklkbfkoliiaaGreat
set_option linter.unusedVariables false
set_option linter.unusedSimpArgs false
open Go.RowKit
attribute [local irreducible] tkN jK ky mnN
def yv (R : List (List Int)) : List Mem := R.map fun r => Mem.arr 5 1 r.length (r.flatMap uc8)
theorem VZ (R : List (List Int)) (r : List Int) : yv (R ++ [r]) = yv R ++ [Mem.arr 5 1 r.length (r.flatMap uc8)] := by simp [yv]
theorem Xn (R : List (List Int)) : (yv R).length = R.length := by simp [yv]
theorem gn {R : List (List Int)} {k : Nat} (h : k < R.length) : (yv R)[k]? = some (Mem.arr 5 1 R[k].length (R[k].flatMap uc8)) := by simp [yv, h]
theorem G9 {R : List (List Int)} {k n : Nat} {r : List Int} (hr : r.length = n) : (yv R).set k (Mem.arr 5 1 n (r.flatMap uc8)) = yv (R.set k r) := by
 subst hr
 unfold yv
 rw [List.map_set]
def pcF (i : Nat) (sn : Int) (mn k : Nat) : List D := [.val (.int .u64 sn), .val (.int .i64 (k : Int)), .val (.int .i64 (mn : Int)), .farr i k]
theorem Xo (i : Nat) (sn : Int) (mn n : Nat) : (qaY n).flatMap (pcF i sn mn) ++ [.val (.int .u64 sn), .val (.int .i64 (n : Int)), .val (.int .i64 (mn : Int)), .farr i n] = (qaY (n + 1)).flatMap (pcF i sn mn) := by
 rw [List.range_succ, qbg]
 rfl
theorem uW {σ : List Nat} {V : Nat → Bool} {M : List Blk} {T : TypeId} {i j n n' m : Nat} {sn : Int} {mn : Nat} {l : List D} (hn : n = n') (hl : l = (qaY m).flatMap (pcF i sn mn)) (hp : pos σ i = some j) : (vwL σ V M l).map (Blk.arx T 4 n) = some (Blk.arx T 4 n' ((qaY m).flatMap (pcF j sn mn))) := by
 subst hl
 exact qO hn rfl fun a => by simp [vwL, vw, hp, pcF]
theorem Xp (b : List Int) (k : Nat) : (qaY (k + 1)).map (kY b) = (qaY k).map (kY b) ++ [kY b k] := by
 rw [List.range_succ, List.map_append]
 rfl
theorem Ya (l : List Int) (h : l.length ≤ 2000000) (R : List (List Int)) (k : Nat) (hk : R.length = k) : DFun Tryz.prog 16 [.slf 1 (l).length ((l).flatMap uc8)] [.fam (yv R)] (.farr 0 k) [.fam (yv (R ++ [l]))] := by
 have h1 := DFun.absR (Min := []) (Mout := []) (yv R) 0 (YO l h) rfl rfl rfl rfl rfl rfl rfl rfl rfl
 rw [Xn, hk] at h1
 rw [VZ]
 exact h1
theorem KQ (sn : Int) (b : List Int) (n : Nat) (hR : n ≤ 1000) (Bs : List Mem) : DRound Tryz.prog 0 [.agg [.val (.int .u64 sn), .val (.int .i64 ((n : Nat) : Int)), .val (.int .i64 (mnN b : Nat)), .farr 3 (n)]] [.lp none 18 [(6, .loc 1 0)] #[12] G0 G1 .ready none, .mix 48 [.arr 2], .arx 53 4 (n) ((qaY (n)).flatMap (pcF 3 sn (mnN b))), .fam Bs] true [.lp none 18 [(6, .loc 1 0)] #[12] G0 G1 .ready none, .mix 48 [.arr 4], .gone, .fam Bs, .arx 53 4 (n + 1) ((qaY (n + 1)).flatMap (pcF 3 sn (mnN b)))] := by
 refine gb 4 rfl rfl (by simp) rfl rfl fun s0 hs0 => ?_
 refine zam 1 ?_
 refine zac ?_
 refine zaj rfl (zan 4 rfl k9 rfl) ?_
 refine zar rfl (kt rfl kx (ev1 rfl) (ev1 rfl) rfl rfl rfl rfl) ?_
 refine zab ?_
 refine ⟨rfl, ?_⟩
 simp only [zad, zaf]
 refine zas ?_
 refine zam 2 ?_
 refine zac ?_
 refine za rfl (zaq rfl VS (ev1 rfl) rfl rfl) ?_
 refine za rfl (qo rfl kx (ev1 rfl) rfl rfl) ?_
 refine zaj rfl (XR (ps := [(0, .tmp 14)]) 5 rfl jV k9 rfl (ec (ev1 rfl) en) rfl rfl rfl rfl (by decide) (by decide) rfl) ?_
 refine zaj rfl (WK (j := 6) rfl jV k9 rfl (ev1 rfl) (ev1 rfl) rfl rfl rfl (rfl) (fun _ => ⟨by omega, by omega⟩)) ?_
 refine zar rfl (kL rfl VS (ev1 rfl) (ev1 rfl) (fun s v h => by cases h <;> exact ⟨rfl, rfl⟩) rfl (by first | decide | exact qaF rfl | simp)) ?_
 refine zab ?_
 refine ⟨rfl, rfl, [0, 1, 2, 3, 6], rfl, ⟨rfl, rfl, rfl, rfl, uW rfl (Xo 3 sn _ n) rfl, trivial⟩⟩
theorem Z9 (sn : Int) (b : List Int) (h2 : 0 < b.length) (h3 : b.length ≤ 16384) : DFun Tryz.prog 101 [.yld 0, .loc 3 0, .loc 4 0, .loc 5 0] [.lp none 18 [(6, .loc 1 0)] #[12] G0 G1 .ready none, .mix 48 [.arr 2], .arx 53 4 (0) ((qaY (0)).flatMap (pcF 6 sn (mnN b))), .flat 3 [.int .i64 (mnN b : Nat)], .mix 30 [.slf 1 (b).length ((b).flatMap uc8)], .flat 25 [.int .u64 sn], .fam (yv ([]))] (.tup []) [.lp none 18 [(6, .loc 1 0)] #[12] G0 G1 .ready none, .mix 48 [.arr 7], .gone, .flat 3 [.int .i64 (mnN b : Nat)], .mix 30 [.slf 1 (b).length ((b).flatMap uc8)], .flat 25 [.int .u64 sn], .fam (yv ((qaY (mnN b)).map (kY b))), .arx 53 4 (mnN b) ((qaY (mnN b)).flatMap (pcF 6 sn (mnN b)))] := by
 have hmn : mnN b = (b.length + 255) / 256 := by unfold mnN; rfl
 refine zap (N := 34) 7 (by kernel_rfl) Tryz.func101 rfl rfl rfl (by simp only [fr0, qau, qaw]; exact rfl) rfl fun s0 hs0 => ?_
 refine zah ?_
 refine za rfl (qi rfl tb3 (ev1 rfl) rfl rfl) ?_
 refine zaa 1 rfl ?_
 refine zab ?_
 refine zas ?_
 refine jS (kp ?_)
 refine zah ?_
 refine za rfl (qA rfl (ev1 rfl) (ev1 rfl)) ?_
 refine zab ?_
 refine zae ?_
 refine qM rfl (by simp; omega) ?_
 refine zao ?_
 refine zae ?_
 refine zas ?_
 refine zah ?_
 refine zaa 2 rfl ?_
 refine zab ?_
 refine zae ?_
 refine qg [([], []), ([], []), ([4], []), ([], []), ([], []), ([], []), ([], []), ([], []), ([], []), ([], [])] qU (by kernel_rfl) ?_
 refine zag rfl rfl (zal (.inl rfl) (ev1 rfl)) ?_
 refine zag rfl rfl (jp rfl (ev1 rfl) (ev1 rfl) (fun _ => qaC _ (by omega))) ?_
 refine zag rfl rfl (zaq rfl kC (ev1 rfl) rfl rfl) ?_
 refine zag rfl rfl (qt rfl qu (ev1 rfl)) ?_
 refine zag rfl rfl (zal (.inl rfl) (ev1 rfl)) ?_
 refine zag rfl rfl (qh rfl (ev1 rfl) (ev1 rfl) (fun _ => qaC _ (by omega))) ?_
 refine zag rfl rfl (jp rfl (ev1 rfl) (ev1 rfl) (fun _ => qaC _ (by omega))) ?_
 refine zag rfl rfl (yF rfl (ev1 rfl) (ev1 rfl)) ?_
 refine zag rfl rfl (zal (.inr rfl) (ev1 rfl)) ?_
 refine zag rfl rfl (zal (.inr rfl) (ev1 rfl)) ?_
 refine qp ?_
 refine zae ?_
 refine zam 1 ?_
 refine qg [([], []), ([5], []), ([], []), ([3], []), ([4], []), ([], []), ([], []), ([], []), ([], []), ([6], [6]), ([], []), ([0, 1, 2, 6, 7], [0, 1, 2, 6, 7]), ([], [])] qU (by kernel_rfl) ?_
 refine zag rfl rfl (zal (.inl rfl) (ev1 rfl)) ?_
 refine zag rfl rfl (qi rfl ku (ev1 rfl) rfl rfl) ?_
 refine zag rfl rfl (zal (.inl rfl) (ev1 rfl)) ?_
 refine zag rfl rfl (qi rfl tb3 (ev1 rfl) rfl rfl) ?_
 refine zag rfl rfl (zaq rfl kC (ev1 rfl) rfl rfl) ?_
 refine zag rfl rfl (zal (.inl rfl) (ev1 rfl)) ?_
 refine zag rfl rfl (zal (.inl rfl) (ev1 rfl)) ?_
 refine zag rfl rfl (zal (.inl rfl) (ev1 rfl)) ?_
 refine zag rfl rfl (yq (i := 0 * 256) (j := min b.length ((0 + 1) * 256)) rfl qu (ev1 rfl) (ev1 rfl) (ev1 rfl) (ev1 rfl) (fun hp => by first | omega | (simp at hp; omega)) (fun hp => by first | omega | (simp at hp; omega)) (fun hp => by first | omega | (simp at hp; omega)) (fun hp => by first | omega | (simp at hp; omega)) (fun _ => rfl)) ?_
 refine gf rfl rfl (zai [6] [] [] rfl (ev1 rfl) (ec (ev1 rfl) en) rfl rfl (Ya (kY b 0) (by have := ge b 0; omega) ((qaY (0)).map (kY b)) 0 (by simp)) rfl rfl rfl rfl rfl rfl) rfl (by simp only [upd, zad, zaf]; exact rfl) ?_
 refine zag rfl rfl (kX (ps := [(0, .tmp 21), (1, .tmp 22), (2, .tmp 23), (3, .tmp 29)]) rfl w9 k9 (ec (ev1 rfl) (ec (ev1 rfl) (ec (ev1 rfl) (ec (ev1 rfl) en)))) rfl rfl rfl) ?_
 refine gf rfl rfl (u6 (i := 0) [0, 1, 2, 6] [] [7] rfl (ev1 rfl) (ec (ev1 rfl) en) rfl rfl (by exact jw _ _ ⟨rfl, rfl, (by first | exact rfl | exact arx_fits rfl rfl (vwL_flat (fun _ => rfl) _) | exact km rfl rfl (ql (fun _ => rfl) _) | exact qB rfl rfl (fun _ => rfl) | exact qO rfl rfl (fun _ => rfl)), rfl, trivial⟩) (KQ sn b 0 (by omega) _) rfl rfl rfl (by exact (wrc rfl (wrc rfl (wrc rfl (wrc rfl (wrc (by first | exact rfl | exact kK (fun _ => rfl) | exact ke (ql (fun _ => rfl) _) | exact kg (fun _ => rfl) | exact ki (fun _ => rfl)) rfl)))))) rfl) rfl (by simp only [upd, zad, zaf]; exact rfl) ?_
 refine zag rfl rfl (ko rfl (ev1 rfl)) ?_
 refine qp ?_
 refine qc rfl (rfl) ?_
 refine zao ?_
 refine zac ?_
 refine za rfl (qh rfl (ev1 rfl) (ev1 rfl) (fun _ => qaC _ (by omega))) ?_
 refine zaa 1 rfl ?_
 refine zab ?_
 refine Wq ⟨hs0, rfl⟩ (α := Nat) (fun k => [(9, .val (.int .i64 (k : Int)))]) [(0, _), (1, _), (2, _), (3, _), (8, _)] (fun k => [(6, .fam (yv ((qaY (k)).map (kY b)))), (7, .arx 53 4 (k) ((qaY (k)).flatMap (pcF 6 sn (mnN b))))]) [_, _, _, _, _, _, .hole, .hole] (fun k => 1 ≤ k ∧ k ≤ mnN b) (fun k => mnN b - k) 1 [0, 1, 2, 3, 4, 5, 6, 7] (⟨qaO _, by omega⟩) rfl ⟨rfl, rfl, rfl, rfl, rfl, trivial⟩ ⟨rfl, trivial⟩ ⟨rfl, rfl, rfl, rfl, rfl, rfl, by rfl, by rfl, trivial⟩ ?_
 intro k hx
 simp only [upd, zad, zaf, qaE, qaH]
 obtain ⟨hk1, hk⟩ := hx
 refine zah ?_
 refine za rfl (qA rfl (ev1 rfl) (ev1 rfl)) ?_
 refine zab ?_
 refine zae ?_
 refine qe rfl (fun c3 => ?_) (fun c3 => ?_)
 ·try simp only [decide_eq_true_eq, decide_eq_false_iff_not, beq_iff_eq, bne_iff_ne, beq_eq_false_iff_ne, bne_eq_false_iff_eq, qaz, qaA, qav, qaB, qax, ne_eq, Decidable.not_not, qaQ, qaR] at c3
  refine zao ?_
  refine zae ?_
  refine zas ?_
  refine zah ?_
  refine zaa 2 rfl ?_
  refine zab ?_
  refine zae ?_
  refine qg [([], []), ([], []), ([4], []), ([], []), ([], []), ([], []), ([], []), ([], []), ([], []), ([], [])] qU (by kernel_rfl) ?_
  refine zag rfl rfl (zal (.inl rfl) (ev1 rfl)) ?_
  refine zag rfl rfl (jp rfl (ev1 rfl) (ev1 rfl) (fun _ => qaC _ (by omega))) ?_
  refine zag rfl rfl (zaq rfl kC (ev1 rfl) rfl rfl) ?_
  refine zag rfl rfl (qt rfl qu (ev1 rfl)) ?_
  refine zag rfl rfl (zal (.inl rfl) (ev1 rfl)) ?_
  refine zag rfl rfl (qh rfl (ev1 rfl) (ev1 rfl) (fun _ => qaC _ (by omega))) ?_
  refine zag rfl rfl (jp rfl (ev1 rfl) (ev1 rfl) (fun _ => qaC _ (by omega))) ?_
  refine zag rfl rfl (yF rfl (ev1 rfl) (ev1 rfl)) ?_
  refine zag rfl rfl (zal (.inr rfl) (ev1 rfl)) ?_
  refine zag rfl rfl (zal (.inr rfl) (ev1 rfl)) ?_
  refine qp ?_
  refine zae ?_
  refine zam 1 ?_
  refine qg [([], []), ([5], []), ([], []), ([3], []), ([4], []), ([], []), ([], []), ([], []), ([], []), ([6], [6]), ([], []), ([0, 1, 7, 6, 8], [0, 1, 7, 6, 8]), ([], [])] qU (by kernel_rfl) ?_
  refine zag rfl rfl (zal (.inl rfl) (ev1 rfl)) ?_
  refine zag rfl rfl (qi rfl ku (ev1 rfl) rfl rfl) ?_
  refine zag rfl rfl (zal (.inl rfl) (ev1 rfl)) ?_
  refine zag rfl rfl (qi rfl tb3 (ev1 rfl) rfl rfl) ?_
  refine zag rfl rfl (zaq rfl kC (ev1 rfl) rfl rfl) ?_
  refine zag rfl rfl (zal (.inl rfl) (ev1 rfl)) ?_
  refine zag rfl rfl (zal (.inl rfl) (ev1 rfl)) ?_
  refine zag rfl rfl (zal (.inl rfl) (ev1 rfl)) ?_
  refine zag rfl rfl (yq (i := k * 256) (j := min b.length ((k + 1) * 256)) rfl qu (ev1 rfl) (ev1 rfl) (ev1 rfl) (ev1 rfl) (fun hp => by first | omega | (simp at hp; omega)) (fun hp => by first | omega | (simp at hp; omega)) (fun hp => by first | omega | (simp at hp; omega)) (fun hp => by first | omega | (simp at hp; omega)) (fun _ => rfl)) ?_
  refine gf rfl rfl (zai [6] [] [] rfl (ev1 rfl) (ec (ev1 rfl) en) rfl rfl (Ya (kY b k) (by have := ge b k; omega) ((qaY (k)).map (kY b)) k (by simp)) rfl rfl rfl rfl rfl rfl) rfl (by simp only [upd, zad, zaf]; exact rfl) ?_
  refine zag rfl rfl (kX (ps := [(0, .tmp 21), (1, .tmp 22), (2, .tmp 23), (3, .tmp 29)]) rfl w9 k9 (ec (ev1 rfl) (ec (ev1 rfl) (ec (ev1 rfl) (ec (ev1 rfl) en)))) rfl rfl rfl) ?_
  refine gf rfl rfl (u6 (i := 0) [0, 1, 7, 6] [] [8] rfl (ev1 rfl) (ec (ev1 rfl) en) rfl rfl (by exact jw _ _ ⟨rfl, rfl, (by first | exact rfl | exact arx_fits rfl rfl (vwL_flat (fun _ => rfl) _) | exact km rfl rfl (ql (fun _ => rfl) _) | exact qB rfl rfl (fun _ => rfl) | exact qO rfl rfl (fun _ => rfl)), rfl, trivial⟩) (KQ sn b k (by omega) _) rfl rfl rfl (by exact (wrc rfl (wrc rfl (wrc rfl (wrc rfl (wrc (by first | exact rfl | exact kK (fun _ => rfl) | exact ke (ql (fun _ => rfl) _) | exact kg (fun _ => rfl) | exact ki (fun _ => rfl)) rfl)))))) rfl) rfl (by simp only [upd, zad, zaf]; exact rfl) ?_
  refine zag rfl rfl (ko rfl (ev1 rfl)) ?_
  refine qp ?_
  refine qc rfl (rfl) ?_
  refine zao ?_
  refine zac ?_
  refine za rfl (qh rfl (ev1 rfl) (ev1 rfl) (fun _ => qaC _ (by omega))) ?_
  refine zaa 1 rfl ?_
  refine zab ?_
  refine ⟨k + 1, [0, 1, 2, 3, 4, 5, 6, 8], ⟨by omega, by omega⟩, by simp only []; omega, rfl, ⟨rfl, rfl, rfl, rfl, rfl, rfl, trivial⟩, ⟨rfl, rfl, rfl, rfl, rfl, rfl, by rw [Xp]; rfl, uW rfl rfl rfl, trivial⟩⟩
 ·try simp only [decide_eq_true_eq, decide_eq_false_iff_not, beq_iff_eq, bne_iff_ne, beq_eq_false_iff_ne, bne_eq_false_iff_eq, qaz, qaA, qav, qaB, qax, ne_eq, Decidable.not_not, qaQ, qaR] at c3
  refine qr ?_
  obtain rfl : k = mnN b := by omega
  refine qY [0, 1, 2, 3, 4, 5, 6, 7] (qF rfl) rfl rfl ?_ ⟨?_, ?_, ?_, ?_, ?_, ?_, ?_, ?_, trivial⟩
  rfl
  all_goals first | exact rfl | exact uW rfl rfl rfl
theorem cut_F (sn : Int) (b : List Int) (h1 : snB sn = true) (h2 : 0 < b.length) (h3 : b.length ≤ 16384) : DFun Tryz.prog 19 [.val (.int .u64 sn), .slf 1 (b).length ((b).flatMap uc8)] [.fam (yv ([]))] (.tup [.arr 1, .val (.int .i64 0)]) [.fam (yv (jG b)), .arx 53 4 (mnN b) ((qaY (mnN b)).flatMap (pcF 0 sn (mnN b)))] := by
 refine qj (N := 18) 1 (by kernel_rfl) Tryz.func19 rfl rfl rfl (by simp only [fr0, qau, qaw]; exact rfl) rfl fun s0 hs0 => ?_
 refine qD rfl hs0 ?_
 refine zam 1 ?_
 refine zac ?_
 refine zaa 1 rfl ?_
 refine zaj rfl (zan 1 rfl jO rfl) ?_
 refine zab ?_
 refine qn (l0 := [_]) rfl rfl rfl rfl rfl hs0 ?_
 refine za rfl (qV rfl en (ec (ev1 rfl) en)) ?_
 refine zab ⟨_, _, _, 2, ev1 rfl, qaM hs0 (by decide), rfl, ?_⟩
 have hs1 : s0.M.length ≤ 2 := qaM hs0 (by decide)
 refine qC rfl hs0 ?_
 refine zae ?_
 refine zam 1 ?_
 refine zac ?_
 refine zaj rfl (zan 2 rfl zr48 rfl) ?_
 refine zab ?_
 refine zae ?_
 refine zae ?_
 refine zam 3 ?_
 refine zac ?_
 refine zaa 2 rfl ?_
 refine zaj rfl (zai [] [] [3, 4, 5] rfl (ev1 rfl) (ec (ev1 rfl) (ec (ev1 rfl) en)) rfl rfl (QP sn b h1 h2 h3) rfl rfl rfl rfl rfl rfl) ?_
 refine zab ?_
 refine zas ?_
 refine wV 2 53 4 rfl (by simp only [qaE, qaH, zad, zaf, qaU, qbd, qau, qaw]; exact rfl) ?_
 refine jf 6 Qg rfl rfl (by simp only [qaE, qaH, zad, zaf, List.map]; exact rfl) ?_
 refine jL ?_
 refine jL ?_
 simp only [qaE, qaH]
 refine u7 (FL := [(6, _)]) (st := .ready) (pe := none) [7, 2, 6, 3, 4, 5, 0] [] [8] 7 rfl rfl (ev1 rfl) rfl (yl ⟨rfl, trivial⟩) rfl rfl rfl (Z9 sn b h2 h3) rfl rfl rfl (by exact (wrc rfl (wrc rfl (wrc rfl (wrc rfl (wrc rfl (wrc rfl (wrc rfl (wrc (by first | exact rfl | exact kK (fun _ => rfl) | exact ke (ql (fun _ => rfl) _) | exact kg (fun _ => rfl) | exact ki (fun _ => rfl)) rfl))))))))) rfl rfl rfl (by simp) (fun e => ?_) (fun c e => ?_)
 ·simp only [upd, zad, zaf]
  refine zah ?_
  refine za rfl (zaq rfl VS (ev1 rfl) rfl rfl) ?_
  refine zaa 1 rfl ?_
  refine zar rfl (qH rfl qT (ev1 rfl) (ev1 rfl) rfl) ?_
  refine zab ?_
  refine qb ?_
  refine jI (kF [1] [] rfl rfl (zP _) rfl rfl rfl rfl rfl) ?_
  refine qY [0, 8] (rs2 rfl (qJ rfl) (js qT rfl rfl rfl)) rfl rfl ?_ ⟨?_, ?_, trivial⟩
  rfl
  all_goals first | exact rfl | exact uW rfl rfl rfl
 ·cases e
end Go.Proofs.YtofklkbfkoliiaaGreat
namespace Go.Proofs.YtofklkbfkoliiaaGreat
set_option linter.unusedVariables false
set_option linter.unusedSimpArgs false
open Go.RowKit
attribute [local irreducible] tkN jK ky mnN y8 kY jG
def zPc : PcM := ⟨0, 0, 0, []⟩
theorem xl : Wk (.val (.agg #[.int .u64 0, .int .i64 0, .int .i64 0, .slice none 0 0])) (.agg (pcD zPc)) := (Wk.vagg _).trans (Wk.agg (.cons (.refl _) (.cons (.refl _) (.cons (.refl _) (.cons (Wk.slf0 1) .nil)))))
theorem tkz (b : List Int) (n : Nat) : b.take (b.take n).length = b.take n := by
 rw [qaT, Nat.min_comm, Jp]
theorem vP (b : List Int) : (jG b).length = mnN b := by unfold jG; simp
theorem zW {b : List Int} {k : Nat} (h : k < (jG b).length) : (jG b)[k] = kY b k := by
 refine (List.getElem_eq_iff h).2 ?_
 rw [vP] at h
 unfold jG
 rw [qbb, List.getElem?_range h]
 rfl
theorem gz (l : List Int) : DFun Tryz.prog 15 [.slf 1 (l).length ((l).flatMap uc8), .slf 1 (l).length ((l).flatMap uc8)] [] (.val (.bool true)) [] := by
 have h := AL l l
 rw [decide_eq_true rfl] at h
 exact h
theorem Xq {i : Nat} {sn : Int} {mn n k : Nat} (h : k < (qaY n).length) : D.agg (pcF i sn mn (qaY n)[k]) = D.agg [.val (.int .u64 sn), .val (.int .i64 ((k : Nat) : Int)), .val (.int .i64 (mn : Nat)), .farr i k] := by
 rw [List.getElem_range]
 rfl
theorem Ha {σ : List Nat} {V : Nat → Bool} {M : List Blk} {j k sz n : Nat} {T : TypeId} {L : List Value} {Bs : List Mem} (hp : pos σ j = none) (hV : V j = true) (hM : M[j]? = some (.fam Bs)) (hB : Bs[k]? = some (.arr T sz n L)) : vw σ V M (.farr j k) = some (.slf sz n L) := by
 simp only [vw, hp, yf, hV, cond_true, hM, hB]
theorem Xr {σ : List Nat} {V : Nat → Bool} {M : List Blk} {j k mn : Nat} {sn : Int} {Q : List (List Int)} (hk : k < Q.length) (hp : pos σ j = none) (hV : V j = true) (hM : M[j]? = some (.fam (yv Q))) : vw σ V M (.agg [.val (.int .u64 sn), .val (.int .i64 (k : Int)), .val (.int .i64 (mn : Int)), .farr j k]) = some (.agg (pcD ⟨sn, k, mn, Q[k]⟩)) := by
 have h := Ha (k := k) hp hV hM (gn hk)
 have h2 := jc (σ := σ) (V := V) (M := M) (d := .val (.int .u64 sn)) rfl (jc (d := .val (.int .i64 (k : Int))) rfl (jc (d := .val (.int .i64 (mn : Int))) rfl (jc h (show vwL σ V M [] = some [] from rfl))))
 unfold vw
 rw [h2]
 rfl
theorem Hb {σ : List Nat} {V : Nat → Bool} {M : List Blk} {T : TypeId} {i j : Nat} {sn : Int} {b : List Int} (hp : pos σ i = none) (hV : V i = true) (hM : M[i]? = some (.arx T 4 (mnN b) ((qaY (mnN b)).flatMap (pcF j sn (mnN b))))) (hpj : pos σ j = none) (hVj : V j = true) (hMj : M[j]? = some (.fam (yv (jG b)))) : vw σ V M (.arr i) = some (.slm 4 (y8 sn b).length ((y8 sn b).flatMap pcD)) := by
 have h1 : vw σ V M (.arr i) = some (.slm 4 (mnN b) ((qaY (mnN b)).flatMap fun k => pcD (pcK sn b k))) := XQ hp hV hM fun k hk => by
  have hk' : k < (jG b).length := by rw [vP]; exact List.mem_range.1 hk
  show gA σ V M [.val _, .val _, .val _, .farr j k] = _
  have h2 := WJ (k := k) hpj hVj hMj (gn hk')
  rw [zW] at h2
  unfold gA; unfold gA; unfold gA; unfold gA; unfold gA
  rw [h2]
  rfl
 rw [uT]
 unfold y8
 rw [List.flatMap_map]
 exact h1
def gl (Q : List (List Int)) : List Nat := Q.map List.length
theorem Yb {Q : List (List Int)} {k : Nat} {r : List Int} (hk : k < Q.length) (h : r.length = Q[k].length) : gl (Q.set k r) = gl Q := by
 unfold gl
 rw [List.map_set]
 refine List.ext_getElem (by simp) fun i h1 h2 => ?_
 by_cases e : k = i
 ·subst e
  rw [List.getElem_set_self, List.getElem_map, h]
 ·rw [List.getElem_set_ne e]
theorem uX {b : List Int} {Q : List (List Int)} (h : gl Q = gl (jG b)) {k : Nat} (hk : k < Q.length) (hm : k < mnN b) : Q[k].length = (kY b k).length := by
 have e : (gl Q)[k]? = (gl (jG b))[k]? := by rw [h]
 unfold gl at e
 rw [qbb, qbb, qat hk, qat (show k < (jG b).length by rw [vP]; exact hm), zW] at e
 exact qay e
theorem uY {b : List Int} {Q : List (List Int)} (h : gl Q = gl (jG b)) : Q.length = mnN b := by
 have := congrArg List.length h
 unfold gl at this
 rw [List.length_map, List.length_map, vP] at this
 exact this
theorem Xs {sn : Int} {b : List Int} (h1 : snB sn = true) (h3 : b.length ≤ 16384) {Q : List (List Int)} (h : gl Q = gl (jG b)) {k : Nat} (hk : k < Q.length) (hm : k < mnN b) : pcB ⟨sn, k, mnN b, Q[k]⟩ = true := by
 have h0 := pcB_iff.1 (qae h1 h3 hm)
 refine pcB_iff.2 ?_
 have e := uX h hk hm
 unfold pcK at h0
 dsimp only at h0 ⊢
 rw [e]
 exact h0
theorem Xt (sn : Int) (b : List Int) (ixs : List Int) (hix : ∀ t ∈ ixs, -9223372036854775808 ≤ t ∧ t ≤ 9223372036854775807) (h1 : (snB sn && decide ((0 : Int) < ((b.take 16385).length : Int))) = false) : DFun Tryz.prog 4 [.val (.int .u64 sn), .slf 1 (b).length ((b).flatMap uc8), .slf 1 (ixs).length ((ixs).flatMap inI)] [] (.val (.bool true)) [] := by
 have hzl : (b.take 16385).length ≤ 16385 := by rw [qaT]; omega
 have hzb : (b.take 16385).length ≤ b.length := by rw [qaT]; omega
 refine zap (N := 121) 0 (by kernel_rfl) Tryz.func4 rfl rfl rfl (by simp only [fr0, qau, qaw]; exact rfl) rfl fun s0 hs0 => ?_
 refine kG (t := 1) rfl fun hl1 hL1 => ?_
 refine kG (t := 2) rfl fun hl2 hL2 => ?_
 refine zah ?_
 refine zaa 1 rfl ?_
 refine zab ?_
 refine zae ?_
 refine zah ?_
 refine za rfl (zai [] [] [] rfl (ev1 rfl) en rfl rfl (xk) rfl rfl rfl rfl rfl rfl) ?_
 refine za rfl (ko rfl (ev1 rfl)) ?_
 refine zab ?_
 refine qc rfl (rfl) ?_
 refine zao ?_
 refine zah ?_
 refine zaa 2 rfl ?_
 refine za rfl (qt rfl qu (ev1 rfl)) ?_
 refine za rfl (yF rfl (ev1 rfl) (ev1 rfl)) ?_
 refine za rfl ((gF (j := min b.length 16385) rfl qu (ev1 rfl) (kB (ev1 rfl)) (fun _ => by omega) (fun _ => by omega) (fun _ => rfl)).cast (d' := .slf 1 ((b.take 16385)).length (((b.take 16385)).flatMap uc8)) (by rw [Jp])) ?_
 refine za rfl (zai [] [] [] rfl (ev1 rfl) (ec (ev1 rfl) en) rfl rfl (jP (b.take 16385) (by omega)) rfl rfl rfl rfl rfl rfl) ?_
 refine zaa 1 rfl ?_
 refine zab ?_
 refine zah ?_
 refine zaa 2 rfl ?_
 refine za rfl (zai [] [] [] rfl (ev1 rfl) (ec (ev1 rfl) (ec (ev1 rfl) en)) rfl rfl (qac sn (b.take 16385) h1) rfl rfl rfl rfl rfl rfl) ?_
 refine zaa 5 rfl ?_
 refine zab ?_
 refine zah ?_
 refine zaa 2 rfl ?_
 refine za rfl (zai [] [] [] rfl (ev1 rfl) (ec (ev1 rfl) (ec (ev1 rfl) en)) rfl rfl (Z6 sn (b.take 16385) h1) rfl rfl rfl rfl rfl rfl) ?_
 refine zaa 5 rfl ?_
 refine zab ?_
 refine zae ?_
 refine zah ?_
 refine zaa 2 rfl ?_
 refine za rfl (ka rfl (ev1 rfl) (ev1 rfl)) ?_
 refine zaa 1 rfl ?_
 refine zak (qm rfl rfl rfl) rfl rfl rfl (zal (.inl rfl) (ev1 rfl)) ?_
 refine zak (qm rfl rfl rfl) rfl rfl rfl (zal (.inl rfl) (ev1 rfl)) ?_
 refine zak (qm rfl rfl rfl) rfl rfl rfl (zai [] [] [] rfl (ev1 rfl) (ec (yo (ev2 rfl) (Wk.slm0 4)) (ec (yo (ev2 rfl) (Wk.slm0 4)) (ec (ev1 rfl) en))) rfl rfl (Xm [] []) rfl rfl rfl rfl rfl rfl) ?_
 refine zak (qm rfl rfl rfl) rfl rfl rfl (ko rfl (ev2 rfl)) ?_
 refine za rfl (kA rfl (ev1 rfl) (ev3 rfl id)) ?_
 refine zab ?_
 refine qc rfl (rfl) ?_
 refine zao ?_
 refine zae ?_
 refine zah ?_
 refine zaa 1 rfl ?_
 refine za rfl (qt rfl y6 (ev1 rfl)) ?_
 refine zaa 1 rfl ?_
 refine zab ?_
 refine zas ?_
 refine qI ⟨hs0, rfl⟩ (α := Nat) (fun k => [(52, .val (.int .i64 (k : Int)))]) [(0, _), (1, _), (7, _), (8, _), (10, _), (11, _), (50, _), (51, _)] (fun k => []) [] (fun k => k ≤ ixs.length) (fun k => ixs.length - k) 0 [] (qa5 _) rfl ⟨rfl, rfl, rfl, rfl, rfl, rfl, rfl, rfl, trivial⟩ ⟨rfl, trivial⟩ trivial ?_
 intro k hx
 simp only [upd, zad, zaf, qaE, qaH]
 have hk := hx
 refine zah ?_
 refine za rfl (qA rfl (ev1 rfl) (ev1 rfl)) ?_
 refine zab ?_
 refine zae ?_
 refine qe rfl (fun c3 => ?_) (fun c3 => ?_)
 ·try simp only [decide_eq_true_eq, decide_eq_false_iff_not, beq_iff_eq, bne_iff_ne, beq_eq_false_iff_ne, bne_eq_false_iff_eq, qaz, qaA, qav, qaB, qax, ne_eq, Decidable.not_not, qaQ, qaR] at c3
  refine zao ?_
  refine zae ?_
  refine zas ?_
  refine zah ?_
  refine zaa 1 rfl ?_
  refine za rfl (qP (j := k) rfl y6 (ev1 rfl) (ev1 rfl) (fun _ => rfl) (by decide) (by omega) (by omega)) ?_
  refine za rfl (qS rfl tb3 (ev1 rfl) rfl) ?_
  refine zaa 2 rfl ?_
  refine zab ?_
  refine zae ?_
  refine zah ?_
  refine zaa 1 rfl ?_
  refine za rfl (qv rfl (ev1 rfl) (ev1 rfl)) ?_
  refine zab ?_
  refine qe rfl (fun c4 => ?_) (fun c4 => ?_)
  ·try simp only [decide_eq_true_eq, decide_eq_false_iff_not, beq_iff_eq, bne_iff_ne, beq_eq_false_iff_ne, bne_eq_false_iff_eq, qaz, qaA, qav, qaB, qax, ne_eq, Decidable.not_not, qaQ, qaR] at c4
   refine qr ?_
   refine zae ?_
   refine zah ?_
   refine zaa 1 rfl ?_
   refine za rfl (qt rfl jV (yo (ev1 rfl) (Wk.slf0 4))) ?_
   refine zaa 1 rfl ?_
   refine zab ?_
   refine zas ?_
   refine jS (kp ?_)
   refine zah ?_
   refine za rfl (qA rfl (ev1 rfl) (ev1 rfl)) ?_
   refine zab ?_
   refine zae ?_
   refine qc rfl (rfl) ?_
   refine qr ?_
   refine zah ?_
   refine zaa 3 rfl ?_
   refine za rfl (qt rfl qu (ev1 rfl)) ?_
   refine za rfl ((gF (j := (b.take 16385).length) rfl qu (ev1 rfl) (kB (ev1 rfl)) (fun _ => by omega) (fun _ => by omega) (fun _ => rfl)).cast (d' := .slf 1 ((b.take 16385)).length (((b.take 16385)).flatMap uc8)) (by rw [tkz])) ?_
   refine za rfl (zai [] [] [] rfl (ev1 rfl) (ec (ev1 rfl) (ec (ev1 rfl) en)) rfl rfl (gz (b.take 16385)) rfl rfl rfl rfl rfl rfl) ?_
   refine zaa 1 rfl ?_
   refine zab ?_
   refine qb ?_
   refine qx (rs1 rfl (qJ rfl)) rfl ?_
   rfl
  ·try simp only [decide_eq_true_eq, decide_eq_false_iff_not, beq_iff_eq, bne_iff_ne, beq_eq_false_iff_ne, bne_eq_false_iff_eq, qaz, qaA, qav, qaB, qax, ne_eq, Decidable.not_not, qaQ, qaR] at c4
   refine zao ?_
   refine zae ?_
   refine zam 1 ?_
   refine zac ?_
   refine zaa 3 rfl ?_
   refine za rfl (zai [] [] [] rfl (ev1 rfl) (ec (ev1 rfl) (ec (ev1 rfl) (ec (ev1 rfl) en))) rfl rfl (qap sn (b.take 16385) ixs[k] h1) rfl rfl rfl rfl rfl rfl) ?_
   refine zaa 3 rfl ?_
   refine zaj rfl (zan 0 rfl k9 rfl) ?_
   refine zar rfl (qQ rfl kx (ev1 rfl) (ev1 rfl) rfl rfl rfl rfl) ?_
   refine zaa 1 rfl ?_
   refine zab ?_
   refine zae ?_
   refine zam 1 ?_
   refine zac ?_
   refine zaj rfl (zan 1 rfl k9 rfl) ?_
   refine zab ?_
   refine zah ?_
   refine zaa 2 rfl ?_
   refine zab ?_
   refine zae ?_
   refine zah ?_
   refine zaa 1 rfl ?_
   refine za rfl (qv rfl (ev1 rfl) (ev1 rfl)) ?_
   refine zab ?_
   refine qc rfl (rfl) ?_
   refine zao ?_
   refine zah ?_
   refine zaa 2 rfl ?_
   refine za rfl (ka rfl (ev1 rfl) (ev1 rfl)) ?_
   refine zaa 1 rfl ?_
   refine zak (qm rfl rfl rfl) rfl rfl rfl (kv rfl kx (ev1 rfl) rfl rfl) ?_
   refine zak (qm rfl rfl rfl) rfl rfl rfl (kv rfl kx (ev1 rfl) rfl rfl) ?_
   refine zak (qm rfl rfl rfl) rfl rfl rfl (zai [] [] [] rfl (ev1 rfl) (ec (yo (ev2 rfl) xl) (ec (yo (ev2 rfl) xl) en)) rfl rfl (G6 zPc zPc) rfl rfl rfl rfl rfl rfl) ?_
   refine zak (qm rfl rfl rfl) rfl rfl rfl (ko rfl (ev2 rfl)) ?_
   refine za rfl (kA rfl (ev1 rfl) (ev3 rfl id)) ?_
   refine zab ?_
   refine qc rfl (rfl) ?_
   refine zao ?_
   refine zac ?_
   refine za rfl (qh rfl (ev1 rfl) (ev1 rfl) (fun _ => qaC _ (by omega))) ?_
   refine zaa 1 rfl ?_
   refine zab ?_
   refine ⟨k + 1, [], by omega, by simp only []; omega, rfl, ⟨rfl, rfl, rfl, rfl, rfl, rfl, rfl, rfl, rfl, trivial⟩, trivial⟩
 ·try simp only [decide_eq_true_eq, decide_eq_false_iff_not, beq_iff_eq, bne_iff_ne, beq_eq_false_iff_ne, bne_eq_false_iff_eq, qaz, qaA, qav, qaB, qax, ne_eq, Decidable.not_not, qaQ, qaR] at c3
  refine qr ?_
  refine zae ?_
  refine zah ?_
  refine zaa 1 rfl ?_
  refine za rfl (qt rfl jV (yo (ev1 rfl) (Wk.slf0 4))) ?_
  refine zaa 1 rfl ?_
  refine zab ?_
  refine zas ?_
  refine jS (kp ?_)
  refine zah ?_
  refine za rfl (qA rfl (ev1 rfl) (ev1 rfl)) ?_
  refine zab ?_
  refine zae ?_
  refine qc rfl (rfl) ?_
  refine qr ?_
  refine zah ?_
  refine zaa 3 rfl ?_
  refine za rfl (qt rfl qu (ev1 rfl)) ?_
  refine za rfl ((gF (j := (b.take 16385).length) rfl qu (ev1 rfl) (kB (ev1 rfl)) (fun _ => by omega) (fun _ => by omega) (fun _ => rfl)).cast (d' := .slf 1 ((b.take 16385)).length (((b.take 16385)).flatMap uc8)) (by rw [tkz])) ?_
  refine za rfl (zai [] [] [] rfl (ev1 rfl) (ec (ev1 rfl) (ec (ev1 rfl) en)) rfl rfl (gz (b.take 16385)) rfl rfl rfl rfl rfl rfl) ?_
  refine zaa 1 rfl ?_
  refine zab ?_
  refine qb ?_
  refine qx (rs1 rfl (qJ rfl)) rfl ?_
  rfl
theorem Xu (sn : Int) (b : List Int) (ixs : List Int) (hix : ∀ t ∈ ixs, -9223372036854775808 ≤ t ∧ t ≤ 9223372036854775807) (h1 : snB sn = true) (h3 : 16384 < (b.take 16385).length) : DFun Tryz.prog 4 [.val (.int .u64 sn), .slf 1 (b).length ((b).flatMap uc8), .slf 1 (ixs).length ((ixs).flatMap inI)] [] (.val (.bool true)) [] := by
 have hzl : (b.take 16385).length ≤ 16385 := by rw [qaT]; omega
 have hzb : (b.take 16385).length ≤ b.length := by rw [qaT]; omega
 refine zap (N := 121) 0 (by kernel_rfl) Tryz.func4 rfl rfl rfl (by simp only [fr0, qau, qaw]; exact rfl) rfl fun s0 hs0 => ?_
 refine kG (t := 1) rfl fun hl1 hL1 => ?_
 refine kG (t := 2) rfl fun hl2 hL2 => ?_
 refine zah ?_
 refine zaa 1 rfl ?_
 refine zab ?_
 refine zae ?_
 refine zah ?_
 refine za rfl (zai [] [] [] rfl (ev1 rfl) en rfl rfl (xk) rfl rfl rfl rfl rfl rfl) ?_
 refine za rfl (ko rfl (ev1 rfl)) ?_
 refine zab ?_
 refine qc rfl (rfl) ?_
 refine zao ?_
 refine zah ?_
 refine zaa 2 rfl ?_
 refine za rfl (qt rfl qu (ev1 rfl)) ?_
 refine za rfl (yF rfl (ev1 rfl) (ev1 rfl)) ?_
 refine za rfl ((gF (j := min b.length 16385) rfl qu (ev1 rfl) (kB (ev1 rfl)) (fun _ => by omega) (fun _ => by omega) (fun _ => rfl)).cast (d' := .slf 1 ((b.take 16385)).length (((b.take 16385)).flatMap uc8)) (by rw [Jp])) ?_
 refine za rfl (zai [] [] [] rfl (ev1 rfl) (ec (ev1 rfl) en) rfl rfl (jP (b.take 16385) (by omega)) rfl rfl rfl rfl rfl rfl) ?_
 refine zaa 1 rfl ?_
 refine zab ?_
 refine zah ?_
 refine zaa 2 rfl ?_
 refine za rfl (zai [] [] [] rfl (ev1 rfl) (ec (ev1 rfl) (ec (ev1 rfl) en)) rfl rfl (qad sn (b.take 16385) h1 h3) rfl rfl rfl rfl rfl rfl) ?_
 refine zaa 5 rfl ?_
 refine zab ?_
 refine zah ?_
 refine zaa 2 rfl ?_
 refine za rfl (zai [] [] [] rfl (ev1 rfl) (ec (ev1 rfl) (ec (ev1 rfl) en)) rfl rfl (Z7 sn (b.take 16385) h1 h3) rfl rfl rfl rfl rfl rfl) ?_
 refine zaa 5 rfl ?_
 refine zab ?_
 refine zae ?_
 refine zah ?_
 refine zaa 2 rfl ?_
 refine za rfl (ka rfl (ev1 rfl) (ev1 rfl)) ?_
 refine zaa 1 rfl ?_
 refine zak (qm rfl rfl rfl) rfl rfl rfl (zal (.inl rfl) (ev1 rfl)) ?_
 refine zak (qm rfl rfl rfl) rfl rfl rfl (zal (.inl rfl) (ev1 rfl)) ?_
 refine zak (qm rfl rfl rfl) rfl rfl rfl (zai [] [] [] rfl (ev1 rfl) (ec (yo (ev2 rfl) (Wk.slm0 4)) (ec (yo (ev2 rfl) (Wk.slm0 4)) (ec (ev1 rfl) en))) rfl rfl (Xm [] []) rfl rfl rfl rfl rfl rfl) ?_
 refine zak (qm rfl rfl rfl) rfl rfl rfl (ko rfl (ev2 rfl)) ?_
 refine za rfl (kA rfl (ev1 rfl) (ev3 rfl id)) ?_
 refine zab ?_
 refine qc rfl (rfl) ?_
 refine zao ?_
 refine zae ?_
 refine zah ?_
 refine zaa 1 rfl ?_
 refine za rfl (qt rfl y6 (ev1 rfl)) ?_
 refine zaa 1 rfl ?_
 refine zab ?_
 refine zas ?_
 refine qI ⟨hs0, rfl⟩ (α := Nat) (fun k => [(52, .val (.int .i64 (k : Int)))]) [(0, _), (1, _), (7, _), (8, _), (10, _), (11, _), (50, _), (51, _)] (fun k => []) [] (fun k => k ≤ ixs.length) (fun k => ixs.length - k) 0 [] (qa5 _) rfl ⟨rfl, rfl, rfl, rfl, rfl, rfl, rfl, rfl, trivial⟩ ⟨rfl, trivial⟩ trivial ?_
 intro k hx
 simp only [upd, zad, zaf, qaE, qaH]
 have hk := hx
 refine zah ?_
 refine za rfl (qA rfl (ev1 rfl) (ev1 rfl)) ?_
 refine zab ?_
 refine zae ?_
 refine qe rfl (fun c3 => ?_) (fun c3 => ?_)
 ·try simp only [decide_eq_true_eq, decide_eq_false_iff_not, beq_iff_eq, bne_iff_ne, beq_eq_false_iff_ne, bne_eq_false_iff_eq, qaz, qaA, qav, qaB, qax, ne_eq, Decidable.not_not, qaQ, qaR] at c3
  refine zao ?_
  refine zae ?_
  refine zas ?_
  refine zah ?_
  refine zaa 1 rfl ?_
  refine za rfl (qP (j := k) rfl y6 (ev1 rfl) (ev1 rfl) (fun _ => rfl) (by decide) (by omega) (by omega)) ?_
  refine za rfl (qS rfl tb3 (ev1 rfl) rfl) ?_
  refine zaa 2 rfl ?_
  refine zab ?_
  refine zae ?_
  refine zah ?_
  refine zaa 1 rfl ?_
  refine za rfl (qv rfl (ev1 rfl) (ev1 rfl)) ?_
  refine zab ?_
  refine qe rfl (fun c4 => ?_) (fun c4 => ?_)
  ·try simp only [decide_eq_true_eq, decide_eq_false_iff_not, beq_iff_eq, bne_iff_ne, beq_eq_false_iff_ne, bne_eq_false_iff_eq, qaz, qaA, qav, qaB, qax, ne_eq, Decidable.not_not, qaQ, qaR] at c4
   refine qr ?_
   refine zae ?_
   refine zah ?_
   refine zaa 1 rfl ?_
   refine za rfl (qt rfl jV (yo (ev1 rfl) (Wk.slf0 4))) ?_
   refine zaa 1 rfl ?_
   refine zab ?_
   refine zas ?_
   refine jS (kp ?_)
   refine zah ?_
   refine za rfl (qA rfl (ev1 rfl) (ev1 rfl)) ?_
   refine zab ?_
   refine zae ?_
   refine qc rfl (rfl) ?_
   refine qr ?_
   refine zah ?_
   refine zaa 3 rfl ?_
   refine za rfl (qt rfl qu (ev1 rfl)) ?_
   refine za rfl ((gF (j := (b.take 16385).length) rfl qu (ev1 rfl) (kB (ev1 rfl)) (fun _ => by omega) (fun _ => by omega) (fun _ => rfl)).cast (d' := .slf 1 ((b.take 16385)).length (((b.take 16385)).flatMap uc8)) (by rw [tkz])) ?_
   refine za rfl (zai [] [] [] rfl (ev1 rfl) (ec (ev1 rfl) (ec (ev1 rfl) en)) rfl rfl (gz (b.take 16385)) rfl rfl rfl rfl rfl rfl) ?_
   refine zaa 1 rfl ?_
   refine zab ?_
   refine qb ?_
   refine qx (rs1 rfl (qJ rfl)) rfl ?_
   rfl
  ·try simp only [decide_eq_true_eq, decide_eq_false_iff_not, beq_iff_eq, bne_iff_ne, beq_eq_false_iff_ne, bne_eq_false_iff_eq, qaz, qaA, qav, qaB, qax, ne_eq, Decidable.not_not, qaQ, qaR] at c4
   refine zao ?_
   refine zae ?_
   refine zam 1 ?_
   refine zac ?_
   refine zaa 3 rfl ?_
   refine za rfl (zai [] [] [] rfl (ev1 rfl) (ec (ev1 rfl) (ec (ev1 rfl) (ec (ev1 rfl) en))) rfl rfl (qaq sn (b.take 16385) ixs[k] h1 h3) rfl rfl rfl rfl rfl rfl) ?_
   refine zaa 3 rfl ?_
   refine zaj rfl (zan 0 rfl k9 rfl) ?_
   refine zar rfl (qQ rfl kx (ev1 rfl) (ev1 rfl) rfl rfl rfl rfl) ?_
   refine zaa 1 rfl ?_
   refine zab ?_
   refine zae ?_
   refine zam 1 ?_
   refine zac ?_
   refine zaj rfl (zan 1 rfl k9 rfl) ?_
   refine zab ?_
   refine zah ?_
   refine zaa 2 rfl ?_
   refine zab ?_
   refine zae ?_
   refine zah ?_
   refine zaa 1 rfl ?_
   refine za rfl (qv rfl (ev1 rfl) (ev1 rfl)) ?_
   refine zab ?_
   refine qc rfl (rfl) ?_
   refine zao ?_
   refine zah ?_
   refine zaa 2 rfl ?_
   refine za rfl (ka rfl (ev1 rfl) (ev1 rfl)) ?_
   refine zaa 1 rfl ?_
   refine zak (qm rfl rfl rfl) rfl rfl rfl (kv rfl kx (ev1 rfl) rfl rfl) ?_
   refine zak (qm rfl rfl rfl) rfl rfl rfl (kv rfl kx (ev1 rfl) rfl rfl) ?_
   refine zak (qm rfl rfl rfl) rfl rfl rfl (zai [] [] [] rfl (ev1 rfl) (ec (yo (ev2 rfl) xl) (ec (yo (ev2 rfl) xl) en)) rfl rfl (G6 zPc zPc) rfl rfl rfl rfl rfl rfl) ?_
   refine zak (qm rfl rfl rfl) rfl rfl rfl (ko rfl (ev2 rfl)) ?_
   refine za rfl (kA rfl (ev1 rfl) (ev3 rfl id)) ?_
   refine zab ?_
   refine qc rfl (rfl) ?_
   refine zao ?_
   refine zac ?_
   refine za rfl (qh rfl (ev1 rfl) (ev1 rfl) (fun _ => qaC _ (by omega))) ?_
   refine zaa 1 rfl ?_
   refine zab ?_
   refine ⟨k + 1, [], by omega, by simp only []; omega, rfl, ⟨rfl, rfl, rfl, rfl, rfl, rfl, rfl, rfl, rfl, trivial⟩, trivial⟩
 ·try simp only [decide_eq_true_eq, decide_eq_false_iff_not, beq_iff_eq, bne_iff_ne, beq_eq_false_iff_ne, bne_eq_false_iff_eq, qaz, qaA, qav, qaB, qax, ne_eq, Decidable.not_not, qaQ, qaR] at c3
  refine qr ?_
  refine zae ?_
  refine zah ?_
  refine zaa 1 rfl ?_
  refine za rfl (qt rfl jV (yo (ev1 rfl) (Wk.slf0 4))) ?_
  refine zaa 1 rfl ?_
  refine zab ?_
  refine zas ?_
  refine jS (kp ?_)
  refine zah ?_
  refine za rfl (qA rfl (ev1 rfl) (ev1 rfl)) ?_
  refine zab ?_
  refine zae ?_
  refine qc rfl (rfl) ?_
  refine qr ?_
  refine zah ?_
  refine zaa 3 rfl ?_
  refine za rfl (qt rfl qu (ev1 rfl)) ?_
  refine za rfl ((gF (j := (b.take 16385).length) rfl qu (ev1 rfl) (kB (ev1 rfl)) (fun _ => by omega) (fun _ => by omega) (fun _ => rfl)).cast (d' := .slf 1 ((b.take 16385)).length (((b.take 16385)).flatMap uc8)) (by rw [tkz])) ?_
  refine za rfl (zai [] [] [] rfl (ev1 rfl) (ec (ev1 rfl) (ec (ev1 rfl) en)) rfl rfl (gz (b.take 16385)) rfl rfl rfl rfl rfl rfl) ?_
  refine zaa 1 rfl ?_
  refine zab ?_
  refine qb ?_
  refine qx (rs1 rfl (qJ rfl)) rfl ?_
  rfl
theorem Hc (sn : Int) (b : List Int) (ixs : List Int) (hix : ∀ t ∈ ixs, -9223372036854775808 ≤ t ∧ t ≤ 9223372036854775807) (h1 : snB sn = true) (h2 : 0 < (b.take 16385).length) (h3 : (b.take 16385).length ≤ 16384) : DFun Tryz.prog 4 [.val (.int .u64 sn), .slf 1 (b).length ((b).flatMap uc8), .slf 1 (ixs).length ((ixs).flatMap inI)] [] (.val (.bool true)) [] := by
 have hzl : (b.take 16385).length ≤ 16385 := by rw [qaT]; omega
 have hzb : (b.take 16385).length ≤ b.length := by rw [qaT]; omega
 have hcl := uT sn (b.take 16385)
 have hm64 := U7 h3
 have hm0 := ZS h2
 refine zap (N := 121) 0 (by kernel_rfl) Tryz.func4 rfl rfl rfl (by simp only [fr0, qau, qaw]; exact rfl) rfl fun s0 hs0 => ?_
 refine kG (t := 1) rfl fun hl1 hL1 => ?_
 refine kG (t := 2) rfl fun hl2 hL2 => ?_
 refine zah ?_
 refine zaa 1 rfl ?_
 refine zab ?_
 refine zae ?_
 refine zah ?_
 refine za rfl (zai [] [] [] rfl (ev1 rfl) en rfl rfl (xk) rfl rfl rfl rfl rfl rfl) ?_
 refine za rfl (ko rfl (ev1 rfl)) ?_
 refine zab ?_
 refine qc rfl (rfl) ?_
 refine zao ?_
 refine zah ?_
 refine zaa 2 rfl ?_
 refine za rfl (qt rfl qu (ev1 rfl)) ?_
 refine za rfl (yF rfl (ev1 rfl) (ev1 rfl)) ?_
 refine za rfl ((gF (j := min b.length 16385) rfl qu (ev1 rfl) (kB (ev1 rfl)) (fun _ => by omega) (fun _ => by omega) (fun _ => rfl)).cast (d' := .slf 1 ((b.take 16385)).length (((b.take 16385)).flatMap uc8)) (by rw [Jp])) ?_
 refine za rfl (zai [] [] [] rfl (ev1 rfl) (ec (ev1 rfl) en) rfl rfl (jP (b.take 16385) (by omega)) rfl rfl rfl rfl rfl rfl) ?_
 refine zaa 1 rfl ?_
 refine zab ?_
 refine zae ?_
 refine jL ?_
 refine Jf 0 rfl (by simp only [qaE, qaH, zad, zaf]; exact rfl) ?_
 refine zam 1 ?_
 refine zac ?_
 refine zaa 2 rfl ?_
 refine zaj rfl (zai [0] [] [1] rfl (ev1 rfl) (ec (ev1 rfl) (ec (ev1 rfl) en)) rfl rfl (cut_F sn (b.take 16385) h1 h2 h3) rfl rfl rfl (by exact (wrc rfl (wrc (by first | exact rfl | exact kK (fun _ => rfl) | exact ke (ql (fun _ => rfl) _) | exact kg (fun _ => rfl) | exact ki (fun _ => rfl)) rfl))) rfl rfl) ?_
 refine zaa 5 rfl ?_
 refine zab ?_
 refine zah ?_
 refine zaa 2 rfl ?_
 refine za rfl (zai [] [] [] rfl (ev1 rfl) (ec (ev1 rfl) (ec (ev1 rfl) en)) rfl rfl (qan sn (b.take 16385) h1 h2 h3) rfl rfl rfl rfl rfl rfl) ?_
 refine zaa 5 rfl ?_
 refine zab ?_
 refine zae ?_
 refine zah ?_
 refine zaa 2 rfl ?_
 refine za rfl (ka rfl (ev1 rfl) (ev1 rfl)) ?_
 refine zaa 1 rfl ?_
 refine zak (qm rfl rfl rfl) rfl rfl rfl (zal (.inl rfl) (ev1 rfl)) ?_
 refine zak (qm rfl rfl rfl) rfl rfl rfl (zal (.inl rfl) (ev1 rfl)) ?_
 refine zak (qm rfl rfl rfl) rfl rfl rfl (zai [] [1, 0] [] rfl (ev1 rfl) (ec (ev2 rfl) (ec (ev2 rfl) (ec (ev1 rfl) en))) (jc (Hb rfl rfl rfl rfl rfl rfl) (jc rfl (jc rfl rfl))) rfl (Xm (y8 sn (b.take 16385)) (y8 sn (b.take 16385))) rfl rfl rfl rfl rfl rfl) ?_
 refine zak (qm rfl rfl rfl) rfl rfl rfl (ko rfl (ev2 rfl)) ?_
 refine za rfl (kA rfl (ev1 rfl) (ev3 rfl id)) ?_
 refine zab ?_
 refine qc rfl (by simp) ?_
 refine zao ?_
 refine zae ?_
 refine zah ?_
 refine zaa 1 rfl ?_
 refine za rfl (qt rfl y6 (ev1 rfl)) ?_
 refine zaa 1 rfl ?_
 refine zab ?_
 refine zas ?_
 refine qI ⟨hs0, rfl⟩ (α := Nat) (fun k => [(52, .val (.int .i64 (k : Int)))]) [(0, _), (1, _), (7, _), (8, _), (10, _), (11, _), (50, _), (51, _)] (fun k => []) [_, _] (fun k => k ≤ ixs.length) (fun k => ixs.length - k) 0 [0, 1] (qa5 _) rfl ⟨rfl, rfl, rfl, rfl, rfl, rfl, rfl, rfl, trivial⟩ ⟨rfl, trivial⟩ ⟨rfl, qO rfl rfl (fun _ => rfl), trivial⟩ ?_
 intro k hx
 simp only [upd, zad, zaf, qaE, qaH]
 have hk := hx
 refine zah ?_
 refine za rfl (qA rfl (ev1 rfl) (ev1 rfl)) ?_
 refine zab ?_
 refine zae ?_
 refine qe rfl (fun c3 => ?_) (fun c3 => ?_)
 ·try simp only [decide_eq_true_eq, decide_eq_false_iff_not, beq_iff_eq, bne_iff_ne, beq_eq_false_iff_ne, bne_eq_false_iff_eq, qaz, qaA, qav, qaB, qax, ne_eq, Decidable.not_not, qaQ, qaR] at c3
  refine zao ?_
  refine zae ?_
  refine zas ?_
  refine zah ?_
  refine zaa 1 rfl ?_
  refine za rfl (qP (j := k) rfl y6 (ev1 rfl) (ev1 rfl) (fun _ => rfl) (by decide) (by omega) (by omega)) ?_
  refine za rfl (qS rfl tb3 (ev1 rfl) rfl) ?_
  refine zaa 2 rfl ?_
  refine zab ?_
  refine zae ?_
  refine zah ?_
  refine zaa 1 rfl ?_
  refine za rfl (qv rfl (ev1 rfl) (ev1 rfl)) ?_
  refine zab ?_
  refine qe rfl (fun c4 => ?_) (fun c4 => ?_)
  ·try simp only [decide_eq_true_eq, decide_eq_false_iff_not, beq_iff_eq, bne_iff_ne, beq_eq_false_iff_ne, bne_eq_false_iff_eq, qaz, qaA, qav, qaB, qax, ne_eq, Decidable.not_not, qaQ, qaR] at c4
   refine qr ?_
   refine zae ?_
   refine zah ?_
   refine zaa 1 rfl ?_
   refine za rfl (wz rfl jV (ev1 rfl) rfl) ?_
   refine zaa 1 rfl ?_
   refine zab ?_
   refine zas ?_
   refine qI ⟨hs0, rfl⟩ (α := Nat × List (List Int)) (fun x_ => [(93, .val (.int .i64 (x_.1 : Int)))]) [(1, _), (7, _), (91, _), (92, _)] (fun x_ => [(0, .fam (yv x_.2))]) [.hole, _] (fun x_ => x_.1 ≤ (mnN (b.take 16385)) ∧ gl x_.2 = gl (jG (b.take 16385))) (fun x_ => (mnN (b.take 16385)) - x_.1) (0, jG (b.take 16385)) [0, 1] (⟨qa5 _, rfl⟩) rfl ⟨rfl, rfl, rfl, rfl, trivial⟩ ⟨rfl, trivial⟩ ⟨rfl, qO rfl rfl (fun _ => rfl), trivial⟩ ?_
   intro x_ hx
   simp only [upd, zad, zaf, qaE, qaH]
   obtain ⟨k, Q⟩ := x_
   obtain ⟨g1, g2⟩ := hx
   dsimp only at g1 g2 ⊢
   have hQn := uY g2
   refine zah ?_
   refine za rfl (qA rfl (ev1 rfl) (ev1 rfl)) ?_
   refine zab ?_
   refine zae ?_
   refine qe rfl (fun c5 => ?_) (fun c5 => ?_)
   ·try simp only [decide_eq_true_eq, decide_eq_false_iff_not, beq_iff_eq, bne_iff_ne, beq_eq_false_iff_ne, bne_eq_false_iff_eq, qaz, qaA, qav, qaB, qax, ne_eq, Decidable.not_not, qaQ, qaR] at c5
    refine zao ?_
    refine zae ?_
    refine zas ?_
    refine zae ?_
    have hk1 : k < Q.length := by omega
    have hkm : k < (mnN (b.take 16385)) := by omega
    have hpk := Xs h1 h3 g2 hk1 hkm
    have hk256 := uX g2 hk1 hkm
    have hc256 := ge (b.take 16385) k
    refine zam 1 ?_
    refine zac ?_
    refine za rfl (vE (k) rfl jV (ev1 rfl) (ev1 rfl) rfl (fun _ => rfl) (fun _ => by omega)) ?_
    refine za rfl ((Qj (j := k) rfl kx (ev1 rfl) rfl (fun _ => rfl) (by simp; omega)).cast (d' := .agg [.val (.int .u64 sn), .val (.int .i64 ((k : Nat) : Int)), .val (.int .i64 ((mnN (b.take 16385)) : Nat)), .farr 0 k]) (by exact Xq _)) ?_
    refine zaj rfl (zan 2 rfl k9 rfl) ?_
    refine zar rfl (kt rfl kx (ev1 rfl) (ev1 rfl) rfl rfl rfl rfl) ?_
    refine zab ?_
    refine zae ?_
    refine zah ?_
    refine za rfl (qo rfl kx (ev1 rfl) rfl rfl) ?_
    refine za rfl (zai [] [0] [] rfl (ev1 rfl) (ec (ev1 rfl) en) (jc (Xr hk1 rfl rfl rfl) rfl) rfl (vL ⟨sn, k, (mnN (b.take 16385)), Q[k]⟩) rfl rfl rfl rfl rfl rfl) ?_
    refine za rfl (ka rfl (ev1 rfl) (ev1 rfl)) ?_
    refine zab ?_
    refine qc rfl (by rw [ye _ (by decide), hpk]; rfl) ?_
    refine zao ?_
    refine zah ?_
    refine za rfl (qa rfl vK (ev1 rfl)) ?_
    refine za rfl (zaq rfl kC (ev1 rfl) rfl rfl) ?_
    refine za rfl (Qn rfl qu (ev1 rfl) rfl (gn hk1)) ?_
    refine zaa 1 rfl ?_
    refine zab ?_
    refine zas ?_
    refine qI ⟨hs0, rfl⟩ (α := Nat × List (List Int)) (fun y_ => [(103, .val (.int .i64 (y_.1 : Int)))]) [(1, _), (7, _), (19, _), (91, _), (92, _), (93, _), (102, _)] (fun y_ => [(0, .fam (yv y_.2))]) [.hole, _, _] (fun y_ => y_.1 ≤ Q[k].length ∧ gl y_.2 = gl (jG (b.take 16385))) (fun y_ => Q[k].length - y_.1) (0, Q) [0, 1, 2] (⟨qa5 _, g2⟩) rfl ⟨rfl, rfl, rfl, rfl, rfl, rfl, rfl, trivial⟩ ⟨rfl, trivial⟩ ⟨rfl, qO rfl rfl (fun _ => rfl), rfl, trivial⟩ ?_
    intro y_ hx
    simp only [upd, zad, zaf, qaE, qaH]
    obtain ⟨j, q⟩ := y_
    obtain ⟨g3, g4⟩ := hx
    dsimp only at g3 g4 ⊢
    have hqn := uY g4
    have hk2 : k < q.length := by omega
    have hql : q[k].length = Q[k].length := (uX g4 hk2 hkm).trans hk256.symm
    refine zah ?_
    refine za rfl (qA rfl (ev1 rfl) (ev1 rfl)) ?_
    refine zab ?_
    refine zae ?_
    refine qe rfl (fun c7 => ?_) (fun c7 => ?_)
    ·try simp only [decide_eq_true_eq, decide_eq_false_iff_not, beq_iff_eq, bne_iff_ne, beq_eq_false_iff_ne, bne_eq_false_iff_eq, qaz, qaA, qav, qaB, qax, ne_eq, Decidable.not_not, qaQ, qaR] at c7
     refine zao ?_
     refine zae ?_
     refine zas ?_
     refine zae ?_
     have hj2 : j < q[k].length := by omega
     refine zac ?_
     refine zaa 2 rfl ?_
     refine zab ?_
     refine zac ?_
     refine za rfl (qa rfl vK (ev1 rfl)) ?_
     refine za rfl (zaq rfl kC (ev1 rfl) rfl rfl) ?_
     refine zaa 1 rfl ?_
     refine za rfl (Jg (j) rfl qu (ev1 rfl) (ev1 rfl) rfl (gn hk2) (fun _ => rfl) (fun _ => by omega)) ?_
     refine za rfl (Qo rfl tb5 (ev1 rfl) rfl (gn hk2) (fun _ => rfl) (by omega) rfl) ?_
     refine za rfl (Yj rfl (ev1 rfl) (ev1 rfl)) ?_
     refine za rfl (Jg (j) rfl qu (ev1 rfl) (ev1 rfl) rfl (gn hk2) (fun _ => rfl) (fun _ => by omega)) ?_
     refine zar rfl (Qp (IntKind.u8.wrap (q[k][j] + 1)) rfl tb5 (ev1 rfl) (ev1 rfl) rfl (gn hk2) rfl (fun _ => rfl) (by omega) rfl) ?_
     refine zab ?_
     refine zac ?_
     refine za rfl (qh rfl (ev1 rfl) (ev1 rfl) (fun _ => qaC _ (by omega))) ?_
     refine zaa 1 rfl ?_
     refine zab ?_
     refine ⟨(j + 1, q.set k (q[k].set j (IntKind.u8.wrap (q[k][j] + 1)))), [0, 1, 2], ⟨by dsimp only; omega, (Yb hk2 (by simp)).trans g4⟩, by dsimp only; omega, rfl, ⟨rfl, rfl, rfl, rfl, rfl, rfl, rfl, rfl, trivial⟩, ⟨congrArg (fun b => some (Blk.fam b)) (G9 (by simp)), qO rfl rfl (fun _ => rfl), rfl, trivial⟩⟩
    ·try simp only [decide_eq_true_eq, decide_eq_false_iff_not, beq_iff_eq, bne_iff_ne, beq_eq_false_iff_ne, bne_eq_false_iff_eq, qaz, qaA, qav, qaB, qax, ne_eq, Decidable.not_not, qaQ, qaR] at c7
     refine qr ?_
     refine zac ?_
     refine za rfl (qh rfl (ev1 rfl) (ev1 rfl) (fun _ => qaC _ (by omega))) ?_
     refine zaa 1 rfl ?_
     refine zab ?_
     refine ⟨(k + 1, q), [0, 1], ⟨by dsimp only; omega, g4⟩, by dsimp only; omega, rfl, ⟨rfl, rfl, rfl, rfl, rfl, trivial⟩, ⟨rfl, qO rfl rfl (fun _ => rfl), trivial⟩⟩
   ·try simp only [decide_eq_true_eq, decide_eq_false_iff_not, beq_iff_eq, bne_iff_ne, beq_eq_false_iff_ne, bne_eq_false_iff_eq, qaz, qaA, qav, qaB, qax, ne_eq, Decidable.not_not, qaQ, qaR] at c5
    refine qr ?_
    refine zah ?_
    refine zaa 3 rfl ?_
    refine za rfl (qt rfl qu (ev1 rfl)) ?_
    refine za rfl ((gF (j := (b.take 16385).length) rfl qu (ev1 rfl) (kB (ev1 rfl)) (fun _ => by omega) (fun _ => by omega) (fun _ => rfl)).cast (d' := .slf 1 ((b.take 16385)).length (((b.take 16385)).flatMap uc8)) (by rw [tkz])) ?_
    refine za rfl (zai [] [] [] rfl (ev1 rfl) (ec (ev1 rfl) (ec (ev1 rfl) en)) rfl rfl (gz (b.take 16385)) rfl rfl rfl rfl rfl rfl) ?_
    refine zaa 1 rfl ?_
    refine zab ?_
    refine qb ?_
    refine qx (rs1 rfl (qJ rfl)) rfl ?_
    rfl
  ·try simp only [decide_eq_true_eq, decide_eq_false_iff_not, beq_iff_eq, bne_iff_ne, beq_eq_false_iff_ne, bne_eq_false_iff_eq, qaz, qaA, qav, qaB, qax, ne_eq, Decidable.not_not, qaQ, qaR] at c4
   refine zao ?_
   refine zae ?_
   by_cases hr : 0 ≤ ixs[k] ∧ ixs[k] < ((mnN (b.take 16385)) : Int)
   ·obtain ⟨i, hi⟩ : ∃ i : Nat, ixs[k] = i := ⟨ixs[k].toNat, by omega⟩
    have hik : i < (mnN (b.take 16385)) := by omega
    refine zam 1 ?_
    refine zac ?_
    refine zaa 3 rfl ?_
    refine za rfl (zai [] [] [] rfl (ev1 rfl) (ec (ev1 rfl) (ec (ev1 rfl) (ec (ev1 rfl) en))) rfl rfl (spc_y sn (b.take 16385) ixs[k] h2 h3 h1 i hik hi) rfl rfl rfl rfl rfl rfl) ?_
    refine zaa 3 rfl ?_
    refine zaj rfl (zan 2 rfl k9 rfl) ?_
    refine zar rfl (kt rfl kx (ev1 rfl) (ev1 rfl) rfl rfl rfl rfl) ?_
    refine zaa 1 rfl ?_
    refine zab ?_
    refine zae ?_
    refine zam 1 ?_
    refine zac ?_
    refine zaj rfl (zan 3 rfl k9 rfl) ?_
    refine zab ?_
    refine zah ?_
    refine zaa 2 rfl ?_
    refine zab ?_
    refine zae ?_
    refine zah ?_
    refine zaa 1 rfl ?_
    refine za rfl (qv rfl (ev1 rfl) (ev1 rfl)) ?_
    refine zab ?_
    refine qM rfl (rfl) ?_
    refine zah ?_
    refine zaa 1 rfl ?_
    refine zab ?_
    refine zah ?_
    refine zaa 1 rfl ?_
    refine za rfl (jY rfl (ev1 rfl) (ev1 rfl)) ?_
    refine zaa 1 rfl ?_
    refine zak (qz rfl rfl rfl) rfl rfl rfl (zal (.inl rfl) (ev1 rfl)) ?_
    refine zak (qz rfl rfl rfl) rfl rfl rfl (zal (.inl rfl) (ev1 rfl)) ?_
    refine zak (qz rfl rfl rfl) rfl rfl rfl (jr rfl jV (ev2 rfl)) ?_
    refine zak (qz rfl rfl rfl) rfl rfl rfl (qA rfl (ev2 rfl) (ev2 rfl)) ?_
    refine za rfl (q0 rfl (ev1 rfl) (ev3 rfl id)) ?_
    refine zab ?_
    refine qM rfl (by rw [hcl]; simp; omega) ?_
    refine zac ?_
    refine zaa 2 rfl ?_
    refine za rfl (yU (i) (by decide) rfl jV (ev1 rfl) (ev1 rfl) (fun _ => hi) (by omega) (fun _ => rfl)) ?_
    refine za rfl ((yV rfl kx (ev1 rfl) rfl rfl).cast (d' := .agg (pcD (pcK sn (b.take 16385) i))) (by rw [U8]; rfl)) ?_
    refine zar rfl (kt rfl kx (ev1 rfl) (ev1 rfl) rfl rfl rfl rfl) ?_
    refine zaa 1 rfl ?_
    refine zab ?_
    refine zah ?_
    refine zaa 2 rfl ?_
    refine za rfl (ka rfl (ev1 rfl) (ev1 rfl)) ?_
    refine zaa 1 rfl ?_
    refine zak (qm rfl rfl rfl) rfl rfl rfl (qo rfl kx (ev1 rfl) rfl rfl) ?_
    refine zak (qm rfl rfl rfl) rfl rfl rfl (qo rfl kx (ev1 rfl) rfl rfl) ?_
    refine zak (qm rfl rfl rfl) rfl rfl rfl (zai [] [] [] rfl (ev1 rfl) (ec (ev2 rfl) (ec (ev2 rfl) en)) rfl rfl (G6 (pcK sn (b.take 16385) i) (pcK sn (b.take 16385) i)) rfl rfl rfl rfl rfl rfl) ?_
    refine zak (qm rfl rfl rfl) rfl rfl rfl (ko rfl (ev2 rfl)) ?_
    refine za rfl (kA rfl (ev1 rfl) (ev3 rfl id)) ?_
    refine zab ?_
    refine qc rfl (by rw [zU]; rfl) ?_
    refine zao ?_
    refine zac ?_
    refine za rfl (qh rfl (ev1 rfl) (ev1 rfl) (fun _ => qaC _ (by omega))) ?_
    refine zaa 1 rfl ?_
    refine zab ?_
    refine ⟨k + 1, [0, 1], by omega, by simp only []; omega, rfl, ⟨rfl, rfl, rfl, rfl, rfl, rfl, rfl, rfl, rfl, trivial⟩, ⟨rfl, qO rfl rfl (fun _ => rfl), trivial⟩⟩
   ·refine zam 1 ?_
    refine zac ?_
    refine zaa 3 rfl ?_
    refine za rfl (zai [] [] [] rfl (ev1 rfl) (ec (ev1 rfl) (ec (ev1 rfl) (ec (ev1 rfl) en))) rfl rfl (qar sn (b.take 16385) ixs[k] h2 h3 h1 hr) rfl rfl rfl rfl rfl rfl) ?_
    refine zaa 3 rfl ?_
    refine zaj rfl (zan 2 rfl k9 rfl) ?_
    refine zar rfl (qQ rfl kx (ev1 rfl) (ev1 rfl) rfl rfl rfl rfl) ?_
    refine zaa 1 rfl ?_
    refine zab ?_
    refine zae ?_
    refine zam 1 ?_
    refine zac ?_
    refine zaj rfl (zan 3 rfl k9 rfl) ?_
    refine zab ?_
    refine zah ?_
    refine zaa 2 rfl ?_
    refine zab ?_
    refine zae ?_
    refine zah ?_
    refine zaa 1 rfl ?_
    refine za rfl (qv rfl (ev1 rfl) (ev1 rfl)) ?_
    refine zab ?_
    refine qM rfl (rfl) ?_
    refine zah ?_
    refine zaa 1 rfl ?_
    refine zab ?_
    refine zah ?_
    refine zaa 1 rfl ?_
    refine za rfl (jY rfl (ev1 rfl) (ev1 rfl)) ?_
    refine zaa 1 rfl ?_
    refine zak (qz rfl rfl rfl) rfl rfl rfl (zal (.inl rfl) (ev1 rfl)) ?_
    refine zak (qz rfl rfl rfl) rfl rfl rfl (zal (.inl rfl) (ev1 rfl)) ?_
    refine zak (qz rfl rfl rfl) rfl rfl rfl (jr rfl jV (ev2 rfl)) ?_
    refine zak (qz rfl rfl rfl) rfl rfl rfl (qA rfl (ev2 rfl) (ev2 rfl)) ?_
    refine za rfl (q0 rfl (ev1 rfl) (ev3 rfl id)) ?_
    refine zab ?_
    refine qc rfl (by rw [hcl]; simp; omega) ?_
    refine zao ?_
    refine zah ?_
    refine zaa 2 rfl ?_
    refine za rfl (ka rfl (ev1 rfl) (ev1 rfl)) ?_
    refine zaa 1 rfl ?_
    refine zak (qm rfl rfl rfl) rfl rfl rfl (kv rfl kx (ev1 rfl) rfl rfl) ?_
    refine zak (qm rfl rfl rfl) rfl rfl rfl (kv rfl kx (ev1 rfl) rfl rfl) ?_
    refine zak (qm rfl rfl rfl) rfl rfl rfl (zai [] [] [] rfl (ev1 rfl) (ec (yo (ev2 rfl) xl) (ec (yo (ev2 rfl) xl) en)) rfl rfl (G6 zPc zPc) rfl rfl rfl rfl rfl rfl) ?_
    refine zak (qm rfl rfl rfl) rfl rfl rfl (ko rfl (ev2 rfl)) ?_
    refine za rfl (kA rfl (ev1 rfl) (ev3 rfl id)) ?_
    refine zab ?_
    refine qc rfl (rfl) ?_
    refine zao ?_
    refine zac ?_
    refine za rfl (qh rfl (ev1 rfl) (ev1 rfl) (fun _ => qaC _ (by omega))) ?_
    refine zaa 1 rfl ?_
    refine zab ?_
    refine ⟨k + 1, [0, 1], by omega, by simp only []; omega, rfl, ⟨rfl, rfl, rfl, rfl, rfl, rfl, rfl, rfl, rfl, trivial⟩, ⟨rfl, qO rfl rfl (fun _ => rfl), trivial⟩⟩
 ·try simp only [decide_eq_true_eq, decide_eq_false_iff_not, beq_iff_eq, bne_iff_ne, beq_eq_false_iff_ne, bne_eq_false_iff_eq, qaz, qaA, qav, qaB, qax, ne_eq, Decidable.not_not, qaQ, qaR] at c3
  refine qr ?_
  refine zae ?_
  refine zah ?_
  refine zaa 1 rfl ?_
  refine za rfl (wz rfl jV (ev1 rfl) rfl) ?_
  refine zaa 1 rfl ?_
  refine zab ?_
  refine zas ?_
  refine qI ⟨hs0, rfl⟩ (α := Nat × List (List Int)) (fun x_ => [(93, .val (.int .i64 (x_.1 : Int)))]) [(1, _), (7, _), (91, _), (92, _)] (fun x_ => [(0, .fam (yv x_.2))]) [.hole, _] (fun x_ => x_.1 ≤ (mnN (b.take 16385)) ∧ gl x_.2 = gl (jG (b.take 16385))) (fun x_ => (mnN (b.take 16385)) - x_.1) (0, jG (b.take 16385)) [0, 1] (⟨qa5 _, rfl⟩) rfl ⟨rfl, rfl, rfl, rfl, trivial⟩ ⟨rfl, trivial⟩ ⟨rfl, qO rfl rfl (fun _ => rfl), trivial⟩ ?_
  intro x_ hx
  simp only [upd, zad, zaf, qaE, qaH]
  obtain ⟨k, Q⟩ := x_
  obtain ⟨g1, g2⟩ := hx
  dsimp only at g1 g2 ⊢
  have hQn := uY g2
  refine zah ?_
  refine za rfl (qA rfl (ev1 rfl) (ev1 rfl)) ?_
  refine zab ?_
  refine zae ?_
  refine qe rfl (fun c14 => ?_) (fun c14 => ?_)
  ·try simp only [decide_eq_true_eq, decide_eq_false_iff_not, beq_iff_eq, bne_iff_ne, beq_eq_false_iff_ne, bne_eq_false_iff_eq, qaz, qaA, qav, qaB, qax, ne_eq, Decidable.not_not, qaQ, qaR] at c14
   refine zao ?_
   refine zae ?_
   refine zas ?_
   refine zae ?_
   have hk1 : k < Q.length := by omega
   have hkm : k < (mnN (b.take 16385)) := by omega
   have hpk := Xs h1 h3 g2 hk1 hkm
   have hk256 := uX g2 hk1 hkm
   have hc256 := ge (b.take 16385) k
   refine zam 1 ?_
   refine zac ?_
   refine za rfl (vE (k) rfl jV (ev1 rfl) (ev1 rfl) rfl (fun _ => rfl) (fun _ => by omega)) ?_
   refine za rfl ((Qj (j := k) rfl kx (ev1 rfl) rfl (fun _ => rfl) (by simp; omega)).cast (d' := .agg [.val (.int .u64 sn), .val (.int .i64 ((k : Nat) : Int)), .val (.int .i64 ((mnN (b.take 16385)) : Nat)), .farr 0 k]) (by exact Xq _)) ?_
   refine zaj rfl (zan 2 rfl k9 rfl) ?_
   refine zar rfl (kt rfl kx (ev1 rfl) (ev1 rfl) rfl rfl rfl rfl) ?_
   refine zab ?_
   refine zae ?_
   refine zah ?_
   refine za rfl (qo rfl kx (ev1 rfl) rfl rfl) ?_
   refine za rfl (zai [] [0] [] rfl (ev1 rfl) (ec (ev1 rfl) en) (jc (Xr hk1 rfl rfl rfl) rfl) rfl (vL ⟨sn, k, (mnN (b.take 16385)), Q[k]⟩) rfl rfl rfl rfl rfl rfl) ?_
   refine za rfl (ka rfl (ev1 rfl) (ev1 rfl)) ?_
   refine zab ?_
   refine qc rfl (by rw [ye _ (by decide), hpk]; rfl) ?_
   refine zao ?_
   refine zah ?_
   refine za rfl (qa rfl vK (ev1 rfl)) ?_
   refine za rfl (zaq rfl kC (ev1 rfl) rfl rfl) ?_
   refine za rfl (Qn rfl qu (ev1 rfl) rfl (gn hk1)) ?_
   refine zaa 1 rfl ?_
   refine zab ?_
   refine zas ?_
   refine qI ⟨hs0, rfl⟩ (α := Nat × List (List Int)) (fun y_ => [(103, .val (.int .i64 (y_.1 : Int)))]) [(1, _), (7, _), (19, _), (91, _), (92, _), (93, _), (102, _)] (fun y_ => [(0, .fam (yv y_.2))]) [.hole, _, _] (fun y_ => y_.1 ≤ Q[k].length ∧ gl y_.2 = gl (jG (b.take 16385))) (fun y_ => Q[k].length - y_.1) (0, Q) [0, 1, 2] (⟨qa5 _, g2⟩) rfl ⟨rfl, rfl, rfl, rfl, rfl, rfl, rfl, trivial⟩ ⟨rfl, trivial⟩ ⟨rfl, qO rfl rfl (fun _ => rfl), rfl, trivial⟩ ?_
   intro y_ hx
   simp only [upd, zad, zaf, qaE, qaH]
   obtain ⟨j, q⟩ := y_
   obtain ⟨g3, g4⟩ := hx
   dsimp only at g3 g4 ⊢
   have hqn := uY g4
   have hk2 : k < q.length := by omega
   have hql : q[k].length = Q[k].length := (uX g4 hk2 hkm).trans hk256.symm
   refine zah ?_
   refine za rfl (qA rfl (ev1 rfl) (ev1 rfl)) ?_
   refine zab ?_
   refine zae ?_
   refine qe rfl (fun c16 => ?_) (fun c16 => ?_)
   ·try simp only [decide_eq_true_eq, decide_eq_false_iff_not, beq_iff_eq, bne_iff_ne, beq_eq_false_iff_ne, bne_eq_false_iff_eq, qaz, qaA, qav, qaB, qax, ne_eq, Decidable.not_not, qaQ, qaR] at c16
    refine zao ?_
    refine zae ?_
    refine zas ?_
    refine zae ?_
    have hj2 : j < q[k].length := by omega
    refine zac ?_
    refine zaa 2 rfl ?_
    refine zab ?_
    refine zac ?_
    refine za rfl (qa rfl vK (ev1 rfl)) ?_
    refine za rfl (zaq rfl kC (ev1 rfl) rfl rfl) ?_
    refine zaa 1 rfl ?_
    refine za rfl (Jg (j) rfl qu (ev1 rfl) (ev1 rfl) rfl (gn hk2) (fun _ => rfl) (fun _ => by omega)) ?_
    refine za rfl (Qo rfl tb5 (ev1 rfl) rfl (gn hk2) (fun _ => rfl) (by omega) rfl) ?_
    refine za rfl (Yj rfl (ev1 rfl) (ev1 rfl)) ?_
    refine za rfl (Jg (j) rfl qu (ev1 rfl) (ev1 rfl) rfl (gn hk2) (fun _ => rfl) (fun _ => by omega)) ?_
    refine zar rfl (Qp (IntKind.u8.wrap (q[k][j] + 1)) rfl tb5 (ev1 rfl) (ev1 rfl) rfl (gn hk2) rfl (fun _ => rfl) (by omega) rfl) ?_
    refine zab ?_
    refine zac ?_
    refine za rfl (qh rfl (ev1 rfl) (ev1 rfl) (fun _ => qaC _ (by omega))) ?_
    refine zaa 1 rfl ?_
    refine zab ?_
    refine ⟨(j + 1, q.set k (q[k].set j (IntKind.u8.wrap (q[k][j] + 1)))), [0, 1, 2], ⟨by dsimp only; omega, (Yb hk2 (by simp)).trans g4⟩, by dsimp only; omega, rfl, ⟨rfl, rfl, rfl, rfl, rfl, rfl, rfl, rfl, trivial⟩, ⟨congrArg (fun b => some (Blk.fam b)) (G9 (by simp)), qO rfl rfl (fun _ => rfl), rfl, trivial⟩⟩
   ·try simp only [decide_eq_true_eq, decide_eq_false_iff_not, beq_iff_eq, bne_iff_ne, beq_eq_false_iff_ne, bne_eq_false_iff_eq, qaz, qaA, qav, qaB, qax, ne_eq, Decidable.not_not, qaQ, qaR] at c16
    refine qr ?_
    refine zac ?_
    refine za rfl (qh rfl (ev1 rfl) (ev1 rfl) (fun _ => qaC _ (by omega))) ?_
    refine zaa 1 rfl ?_
    refine zab ?_
    refine ⟨(k + 1, q), [0, 1], ⟨by dsimp only; omega, g4⟩, by dsimp only; omega, rfl, ⟨rfl, rfl, rfl, rfl, rfl, trivial⟩, ⟨rfl, qO rfl rfl (fun _ => rfl), trivial⟩⟩
  ·try simp only [decide_eq_true_eq, decide_eq_false_iff_not, beq_iff_eq, bne_iff_ne, beq_eq_false_iff_ne, bne_eq_false_iff_eq, qaz, qaA, qav, qaB, qax, ne_eq, Decidable.not_not, qaQ, qaR] at c14
   refine qr ?_
   refine zah ?_
   refine zaa 3 rfl ?_
   refine za rfl (qt rfl qu (ev1 rfl)) ?_
   refine za rfl ((gF (j := (b.take 16385).length) rfl qu (ev1 rfl) (kB (ev1 rfl)) (fun _ => by omega) (fun _ => by omega) (fun _ => rfl)).cast (d' := .slf 1 ((b.take 16385)).length (((b.take 16385)).flatMap uc8)) (by rw [tkz])) ?_
   refine za rfl (zai [] [] [] rfl (ev1 rfl) (ec (ev1 rfl) (ec (ev1 rfl) en)) rfl rfl (gz (b.take 16385)) rfl rfl rfl rfl rfl rfl) ?_
   refine zaa 1 rfl ?_
   refine zab ?_
   refine qb ?_
   refine qx (rs1 rfl (qJ rfl)) rfl ?_
   rfl
theorem Hd (sn : Int) (b : List Int) (ixs : List Int) (hix : ∀ t ∈ ixs, -9223372036854775808 ≤ t ∧ t ≤ 9223372036854775807) : DFun Tryz.prog 4 [.val (.int .u64 sn), .slf 1 (b).length ((b).flatMap uc8), .slf 1 (ixs).length ((ixs).flatMap inI)] [] (.val (.bool true)) [] := by
 cases h : (snB sn && decide ((0 : Int) < ((b.take 16385).length : Int))) with
 | false => exact Xt sn b ixs hix h
 | true =>
  rw [qav, decide_eq_true_eq] at h
  by_cases h3 : (b.take 16385).length ≤ 16384
  ·exact Hc sn b ixs hix h.1 (by omega) h3
  ·exact Xu sn b ixs hix h.1 (by omega)
end Go.Proofs.YtofklkbfkoliiaaGreat
