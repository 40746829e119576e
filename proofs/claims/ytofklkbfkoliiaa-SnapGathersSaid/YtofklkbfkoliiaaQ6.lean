/- taking from the front of bytes; what laws say of bytes; what laws say of patches; what laws say of canvases read; errors by panics; numbers laid and got; rows put together; pieces and piles: which may be; piles that change; pieces put, one by one; piles: what putting makes of them; piles with a piece more; piles with pieces more; bytes cut in pieces; pieces gathered; the document: tiles that are read; snapshots: which may be, and are the same; snapshots as bytes. No condition. -/
import Derived.Test.YtofklkbfkoliiaaQ5
import Derived.Test.YtofklkbfkoliiaaRows
set_option maxRecDepth 4000
set_option maxHeartbeats 1000000
open List renaming getElem?_eq_getElem → qak, length_append → qap, cons_append → qas, nil_append → qaw, replicate → qax, flatMap_cons → qaD, length_replicate → qaG, getElem?_append_right → qaH, length_cons → qaI, getD_eq_getElem?_getD → qaJ, take_of_length_le → qaK, eq_nil_of_length_eq_zero → qaL, length_take → qaN, append_assoc → qaQ, length_drop → qaR, take_succ_eq_append_getElem → qaU, mem_cons_self → qaW, mem_cons_of_mem → qaX, mem_of_getElem? → qa0, range → qa3, length_nil → qa4, getElem?_map → qa5, append_nil → qa6, getElem_mem → qa7, mem_range → qba
open Nat renaming zero_add → qal, reduceAdd → qam, le_of_ble_eq_true → qaq, le_refl → qaE, le_trans → qaF, lt_of_succ_le → qaS, zero_le → qaZ
open Bool renaming and_eq_true → qan, or_eq_false_iff → qar, not_eq_true' → qau, not_eq_false' → qay, or_eq_true → qaA
open Option.some renaming inj → qao
open Go.IntWalk renaming i64_in → qat
open Int renaming not_lt → qaO, not_le → qaP, toNat_natCast → qaV
namespace Go.Proofs.Ytofklkbfkoliiaa
set_option linter.unusedVariables false
set_option linter.unusedSimpArgs false
open Go.RowKit
attribute [local irreducible] tkN jP ky gC UJ tkId GK UK
theorem wkZL {d : D} : WkL [d, .val (.int .u64 0), .val (.int .i64 0), .val (.int .u64 0), .val (.int .i64 0), .val (.int .i64 0), .val (.int .i64 0), .val (.int .i64 0), .val (.int .i64 0), .val (.int .i64 0), .val (.int .u8 0), .val (.int .u8 0), .val (.int .u8 0), .val (.int .u8 0), .val (.int .i64 0), .val (.int .i64 0), .val (.slice none 0 0), .val (.int .u64 0), .val (.int .i64 0), .val (.int .u64 0)] (d :: opD zO) :=
 WkL.cons (Wk.refl _) (WkL.cons (Wk.refl _) (WkL.cons (Wk.refl _) (WkL.cons (Wk.refl _) (WkL.cons (Wk.refl _) (WkL.cons (Wk.refl _) (WkL.cons (Wk.refl _) (WkL.cons (Wk.refl _) (WkL.cons (Wk.refl _) (WkL.cons (Wk.refl _) (WkL.cons (Wk.refl _) (WkL.cons (Wk.refl _) (WkL.cons (Wk.refl _) (WkL.cons (Wk.refl _) (WkL.cons (Wk.refl _) (WkL.cons (Wk.refl _) (WkL.cons (Wk.slf0 4) (WkL.cons (Wk.refl _) (WkL.cons (Wk.refl _) (WkL.cons (Wk.refl _) (WkL.nil))))))))))))))))))))
theorem UT (L : List Int) (e : Int) : DFun Try.prog 81 [.dpm [.slf 1 (L).length ((L).flatMap uc8), .val (.int .i64 e)]] [] (.val (.int .i64 (L.length : Int))) [] := by
 refine zan (N := 11) 0 (by kernel_rfl) Try.func81 rfl rfl rfl (by simp only [fr0, qal, qam]; exact rfl) rfl fun s0 hs0 => ?_
 refine zah ?_
 refine zaa 1 rfl ?_
 refine zab ?_
 refine zag ?_
 refine zah ?_
 refine zaa 1 rfl ?_
 refine za rfl (J9 rfl QC (ev1 rfl)) ?_
 refine zab ?_
 refine qj rfl (rfl) ?_
 refine qd ?_
 refine zah ?_
 refine zaa 1 rfl ?_
 refine za rfl (qt rfl (ev1 rfl) (fun s v h => by cases h; exact ⟨_, rfl⟩)) ?_
 refine za rfl (xK rfl gb (ev1 rfl)) ?_
 refine za rfl (xK rfl wm (ev1 rfl)) ?_
 refine za rfl (gq rfl kS (ev1 rfl) rfl) ?_
 refine za rfl (qJ rfl qK (ev1 rfl)) ?_
 refine zaa 1 rfl ?_
 refine zab ?_
 refine qe ?_
 refine qH (rs1 rfl (qO rfl)) rfl ?_
 rfl
theorem GQ (e : Int) : DDef Try.prog 77 [.loc 0 0] [.flat 27 [.int .i64 e]] none none [.flat 27 [.int .i64 0]] := by
 refine jj (dr := .tup []) (t := 1) (N := 3) 1 (by kernel_rfl) Try.func77 rfl rfl rfl (by simp only [fr0, qal, qam]; exact rfl) rfl rfl rfl rfl rfl fun s0 hs0 => ?_
 refine za rfl (zai [] [] [] rfl (ev1 rfl) (ec (ev1 rfl) en) rfl rfl (UR) rfl rfl rfl rfl rfl rfl) ?_
 refine qc rfl (qG rfl qU (ev1 rfl) (ev1 rfl) rfl) ?_
 refine zab ?_
 refine kc [0] (qD rfl) rfl rfl ?_ ⟨rfl, trivial⟩
 rfl
theorem Kc (e n : Int) : DDef Try.prog 77 [.loc 0 0] [.flat 27 [.int .i64 e]] (some (.ifc 172 (.val (.agg #[.int .i64 n])))) none [.flat 27 [.int .i64 n]] := by
 refine jj (dr := .tup []) (t := 1) (N := 3) 1 (by kernel_rfl) Try.func77 rfl rfl rfl (by simp only [fr0, qal, qam]; exact rfl) rfl rfl rfl rfl rfl fun s0 hs0 => ?_
 refine za rfl (zai [] [] [] rfl (ev1 rfl) (ec (ev1 rfl) en) rfl rfl (Zz n) rfl rfl rfl rfl rfl rfl) ?_
 refine qc rfl (qG rfl qU (ev1 rfl) (ev1 rfl) rfl) ?_
 refine zab ?_
 refine kc [0] (qD rfl) rfl rfl ?_ ⟨rfl, trivial⟩
 rfl
theorem UU (L : List Int) (hL : okL L) (h15 : L.length ≤ 32768) (v : Vec) (r : List Int) (h : vD L = .ok v r) (hr : r.length ≤ L.length) : DFun Try.prog 59 [.slf 1 (L).length ((L).flatMap uc8), .fn (.func 60) [] []] [] (.tup [.val (.agg (c9 v).toArray), .val (.int .i64 ((L.length : Int) - (r.length : Int))), .val (.int .i64 0)]) [] := by
 refine qn (N := 41) 0 (by kernel_rfl) Try.func59 rfl rfl rfl (by simp only [fr0, qal, qam]; exact rfl) rfl fun s0 hs0 => ?_
 refine qF rfl hs0 ?_
 refine zam 2 ?_
 refine zac ?_
 refine zaj rfl (zao 0 rfl xx rfl) ?_
 refine zaa 1 rfl ?_
 refine zaj rfl (zao 1 rfl j4 rfl) ?_
 refine zab ?_
 refine qr (l0 := [_]) rfl rfl rfl rfl rfl hs0 ?_
 refine za rfl (qX rfl en (ec (ev1 rfl) en)) ?_
 refine zab ⟨_, _, _, 2, ev1 rfl, qaF hs0 (by decide), rfl, ?_⟩
 have hs1 : s0.M.length ≤ 2 := qaF hs0 (by decide)
 refine qE rfl hs0 ?_
 refine zah ?_
 refine zaa 1 rfl ?_
 refine za rfl (qJ rfl qK (ev1 rfl)) ?_
 refine za rfl ((zl rfl (ev1 rfl) (ev1 rfl)).cast (d' := .val (.int .i64 (L.length : Int))) (by congr 2; omega)) ?_
 refine zaa 1 rfl ?_
 refine zab ?_
 refine zag ?_
 refine zam 1 ?_
 refine zac ?_
 refine zaa 3 rfl ?_
 refine za rfl ((Qa (j := L.length) rfl qK (ev1 rfl) (ev1 rfl) (ev1 rfl) (fun hp => by first | omega | (simp at hp; omega)) (fun hp => by first | omega | (simp at hp; omega)) (fun hp => by first | omega | (simp at hp; omega)) (fun _ => rfl)).cast (d' := .slf 1 (L).length ((L).flatMap uc8)) (by rw [List.take_length])) ?_
 refine zaj rfl (zai [] [] [2] rfl (ev1 rfl) (ec (ev1 rfl) en) rfl rfl (QK L (by have := hL.2; omega)) rfl rfl rfl rfl rfl rfl) ?_
 refine zaa 4 rfl ?_
 refine qc rfl (qG rfl qU (ev1 rfl) (ev1 rfl) rfl) ?_
 refine zab ?_
 refine zah ?_
 refine za rfl (qq rfl qU (ev1 rfl) rfl rfl) ?_
 refine za rfl (qB rfl (ev1 rfl) (ev1 rfl)) ?_
 refine za rfl (qq rfl qU (ev1 rfl) rfl rfl) ?_
 refine za rfl (zai [] [] [] rfl (ev1 rfl) (ec (ev1 rfl) (ec (ev1 rfl) en)) rfl rfl (uK _ _ (rfl)) rfl rfl rfl rfl rfl rfl) ?_
 refine zab ?_
 refine zag ?_
 refine zam 1 ?_
 refine zac ?_
 refine zaa 1 rfl ?_
 refine za rfl ((jW (ps := [(0, .tmp 27)]) rfl Hd Hl (ec (ev1 rfl) en) rfl rfl rfl).cast (d' := .agg [.loc 2 0, .val (.int .u64 0), .val (.int .i64 0), .val (.int .u64 0), .val (.int .i64 0), .val (.int .i64 0), .val (.int .i64 0), .val (.int .i64 0), .val (.int .i64 0), .val (.int .i64 0), .val (.int .u8 0), .val (.int .u8 0), .val (.int .u8 0), .val (.int .u8 0), .val (.int .i64 0), .val (.int .i64 0), .val (.slice none 0 0), .val (.int .u64 0), .val (.int .i64 0), .val (.int .u64 0)]) (by kernel_rfl)) ?_
 refine zaj rfl (qz 3 rfl (ev1 rfl) rfl) ?_
 refine zaa 1 rfl ?_
 refine zab ?_
 refine zag ?_
 refine kQ 3 (Jk wkZL) rfl rfl (by simp only [qas, qaw, zad, zaf, List.map]; exact rfl) ?_
 refine zam 1 ?_
 refine zac ?_
 refine zaa 2 rfl ?_
 refine zaj rfl (zai [3, 2] [] [] rfl (ev1 rfl) (ec (ev1 rfl) en) rfl rfl (GO zO L hL v r h) rfl rfl rfl rfl rfl rfl) ?_
 refine zaj rfl (zao 4 rfl xx rfl) ?_
 refine qc rfl (q0 rfl gw (ev1 rfl) (ev1 rfl) rfl rfl rfl rfl) ?_
 refine zab ?_
 refine zag ?_
 refine qk [([4], []), ([], []), ([], []), ([], []), ([], []), ([3], []), ([2], []), ([], []), ([0], [0]), ([], []), ([1], [1])] qW (by kernel_rfl) ?_
 refine zae rfl rfl (kG rfl gw (ev1 rfl) rfl rfl) ?_
 refine zae rfl rfl (zal (.inl rfl) (ev1 rfl)) ?_
 refine zae rfl rfl (zal (.inl rfl) (ev1 rfl)) ?_
 refine zae rfl rfl (qt rfl (ev1 rfl) (fun s v h => by cases h; exact ⟨_, rfl⟩)) ?_
 refine zae rfl rfl (qa rfl vl (ev1 rfl)) ?_
 refine zae rfl rfl (qb rfl j8 (ev1 rfl) rfl rfl) ?_
 refine zae rfl rfl (zai [] [2] [] rfl (ev1 rfl) (ec (ev1 rfl) en) rfl rfl (UT r 0) rfl rfl rfl rfl rfl rfl) ?_
 refine zae rfl rfl (jy rfl (ev1 rfl) (ev1 rfl) (fun _ => qat _ (by omega))) ?_
 refine jY rfl rfl (q0 rfl gw (ev1 rfl) (ev1 rfl) rfl rfl rfl rfl) rfl (by simp only [upd, zad, zaf]; exact rfl) ?_
 refine zae rfl rfl (zal (.inr rfl) (ev1 rfl)) ?_
 refine jY rfl rfl (qG rfl qU (ev1 rfl) (ev1 rfl) rfl) rfl (by simp only [upd, zad, zaf]; exact rfl) ?_
 refine qu ?_
 refine qe ?_
 refine jO (kH [1] [] rfl rfl (GQ _) rfl rfl rfl rfl rfl) ?_
 refine qH (rs3 rfl (vf gw rfl rfl rfl) (qO rfl) (jB qU rfl rfl rfl)) rfl ?_
 rfl
theorem VV (L : List Int) (hL : okL L) (h15 : L.length ≤ 32768) (e : Int) (hp : DPan Try.prog 60 [.loc 0 0] [.mix 150 (.loc 1 0 :: opD zO), .mix 175 [.slf 1 (L).length ((L).flatMap uc8), .val (.int .i64 0)]] (.ifc 172 (.val (.agg #[.int .i64 e]))) [.gone, .gone]) : DFun Try.prog 59 [.slf 1 (L).length ((L).flatMap uc8), .fn (.func 60) [] []] [] (.tup [.val (.agg (c9 z9).toArray), .val (.int .i64 0), .val (.int .i64 e)]) [] := by
 refine qn (N := 41) 0 (by kernel_rfl) Try.func59 rfl rfl rfl (by simp only [fr0, qal, qam]; exact rfl) rfl fun s0 hs0 => ?_
 refine qF rfl hs0 ?_
 refine zam 2 ?_
 refine zac ?_
 refine zaj rfl (zao 0 rfl xx rfl) ?_
 refine zaa 1 rfl ?_
 refine zaj rfl (zao 1 rfl j4 rfl) ?_
 refine zab ?_
 refine qr (l0 := [_]) rfl rfl rfl rfl rfl hs0 ?_
 refine za rfl (qX rfl en (ec (ev1 rfl) en)) ?_
 refine zab ⟨_, _, _, 2, ev1 rfl, qaF hs0 (by decide), rfl, ?_⟩
 have hs1 : s0.M.length ≤ 2 := qaF hs0 (by decide)
 refine qE rfl hs0 ?_
 refine zah ?_
 refine zaa 1 rfl ?_
 refine za rfl (qJ rfl qK (ev1 rfl)) ?_
 refine za rfl ((zl rfl (ev1 rfl) (ev1 rfl)).cast (d' := .val (.int .i64 (L.length : Int))) (by congr 2; omega)) ?_
 refine zaa 1 rfl ?_
 refine zab ?_
 refine zag ?_
 refine zam 1 ?_
 refine zac ?_
 refine zaa 3 rfl ?_
 refine za rfl ((Qa (j := L.length) rfl qK (ev1 rfl) (ev1 rfl) (ev1 rfl) (fun hp => by first | omega | (simp at hp; omega)) (fun hp => by first | omega | (simp at hp; omega)) (fun hp => by first | omega | (simp at hp; omega)) (fun _ => rfl)).cast (d' := .slf 1 (L).length ((L).flatMap uc8)) (by rw [List.take_length])) ?_
 refine zaj rfl (zai [] [] [2] rfl (ev1 rfl) (ec (ev1 rfl) en) rfl rfl (QK L (by have := hL.2; omega)) rfl rfl rfl rfl rfl rfl) ?_
 refine zaa 4 rfl ?_
 refine qc rfl (qG rfl qU (ev1 rfl) (ev1 rfl) rfl) ?_
 refine zab ?_
 refine zah ?_
 refine za rfl (qq rfl qU (ev1 rfl) rfl rfl) ?_
 refine za rfl (qB rfl (ev1 rfl) (ev1 rfl)) ?_
 refine za rfl (qq rfl qU (ev1 rfl) rfl rfl) ?_
 refine za rfl (zai [] [] [] rfl (ev1 rfl) (ec (ev1 rfl) (ec (ev1 rfl) en)) rfl rfl (uK _ _ (rfl)) rfl rfl rfl rfl rfl rfl) ?_
 refine zab ?_
 refine zag ?_
 refine zam 1 ?_
 refine zac ?_
 refine zaa 1 rfl ?_
 refine za rfl ((jW (ps := [(0, .tmp 27)]) rfl Hd Hl (ec (ev1 rfl) en) rfl rfl rfl).cast (d' := .agg [.loc 2 0, .val (.int .u64 0), .val (.int .i64 0), .val (.int .u64 0), .val (.int .i64 0), .val (.int .i64 0), .val (.int .i64 0), .val (.int .i64 0), .val (.int .i64 0), .val (.int .i64 0), .val (.int .u8 0), .val (.int .u8 0), .val (.int .u8 0), .val (.int .u8 0), .val (.int .i64 0), .val (.int .i64 0), .val (.slice none 0 0), .val (.int .u64 0), .val (.int .i64 0), .val (.int .u64 0)]) (by kernel_rfl)) ?_
 refine zaj rfl (qz 3 rfl (ev1 rfl) rfl) ?_
 refine zaa 1 rfl ?_
 refine zab ?_
 refine zag ?_
 refine kQ 3 (Jk wkZL) rfl rfl (by simp only [qas, qaw, zad, zaf, List.map]; exact rfl) ?_
 refine zam 1 ?_
 refine zac ?_
 refine zaa 2 rfl ?_
 refine ke rfl (qA [3, 2] [] [] rfl (ev1 rfl) (ec (ev1 rfl) en) rfl rfl (hp) rfl rfl rfl rfl rfl rfl) rfl ?_
 refine jO (qP [1] [] rfl rfl rfl (Kc _ _) rfl rfl rfl rfl rfl) ?_
 refine qH (rs3 rfl (vf gw rfl rfl rfl) (qO rfl) (jB qU rfl rfl rfl)) rfl ?_
 rfl
theorem yO (L : List Int) (hL : okL L) (h15 : L.length ≤ 32768) (v : Vec) (r : List Int) (h : vD L = .ok v r) (hr : r.length ≤ L.length) : DFun Try.prog 37 [.slf 1 (L).length ((L).flatMap uc8)] [] (.tup [.val (.agg (c9 v).toArray), .val (.int .i64 ((L.length : Int) - (r.length : Int))), .val (.int .i64 0)]) [] := by
 refine zan (N := 10) 0 (by kernel_rfl) Try.func37 rfl rfl rfl (by simp only [fr0, qal, qam]; exact rfl) rfl fun s0 hs0 => ?_
 refine kP (t := 0) rfl fun hl0 hL0 => ?_
 refine zag ?_
 refine zam 1 ?_
 refine zac ?_
 refine zaj rfl (zao 0 rfl xx rfl) ?_
 refine zaa 2 rfl ?_
 refine zab ?_
 refine zah ?_
 refine zaa 1 rfl ?_
 refine za rfl (zai [] [] [] rfl (ev1 rfl) (ec (ev1 rfl) (ec (ev1 rfl) en)) rfl rfl (UU L hL h15 v r h hr) rfl rfl rfl rfl rfl rfl) ?_
 refine zaa 3 rfl ?_
 refine qc rfl (q0 rfl gw (ev1 rfl) (ev1 rfl) rfl rfl rfl rfl) ?_
 refine zaa 2 rfl ?_
 refine zab ?_
 refine qe ?_
 refine qH (rs3 rfl (vf gw rfl rfl rfl) (qO rfl) (qO rfl)) rfl ?_
 rfl
theorem zQ (L : List Int) (hL : okL L) (h15 : L.length ≤ 32768) (e : Int) (hp : DPan Try.prog 60 [.loc 0 0] [.mix 150 (.loc 1 0 :: opD zO), .mix 175 [.slf 1 (L).length ((L).flatMap uc8), .val (.int .i64 0)]] (.ifc 172 (.val (.agg #[.int .i64 e]))) [.gone, .gone]) : DFun Try.prog 37 [.slf 1 (L).length ((L).flatMap uc8)] [] (.tup [.val (.agg (c9 z9).toArray), .val (.int .i64 0), .val (.int .i64 e)]) [] := by
 refine zan (N := 10) 0 (by kernel_rfl) Try.func37 rfl rfl rfl (by simp only [fr0, qal, qam]; exact rfl) rfl fun s0 hs0 => ?_
 refine kP (t := 0) rfl fun hl0 hL0 => ?_
 refine zag ?_
 refine zam 1 ?_
 refine zac ?_
 refine zaj rfl (zao 0 rfl xx rfl) ?_
 refine zaa 2 rfl ?_
 refine zab ?_
 refine zah ?_
 refine zaa 1 rfl ?_
 refine za rfl (zai [] [] [] rfl (ev1 rfl) (ec (ev1 rfl) (ec (ev1 rfl) en)) rfl rfl (VV L hL h15 e hp) rfl rfl rfl rfl rfl rfl) ?_
 refine zaa 3 rfl ?_
 refine qc rfl (q0 rfl gw (ev1 rfl) (ev1 rfl) rfl rfl rfl rfl) ?_
 refine zaa 2 rfl ?_
 refine zab ?_
 refine qe ?_
 refine qH (rs3 rfl (vf gw rfl rfl rfl) (qO rfl) (qO rfl)) rfl ?_
 rfl
theorem Kd (L : List Int) (hL : okL L) (h15 : L.length ≤ 32768) (e : Int) (h : vD L = .err e) : DFun Try.prog 37 [.slf 1 (L).length ((L).flatMap uc8)] [] (.tup [.val (.agg (c9 z9).toArray), .val (.int .i64 0), .val (.int .i64 e)]) [] := zQ L hL h15 e (GP zO L hL e h)
end Go.Proofs.Ytofklkbfkoliiaa
namespace Go.Proofs.Ytofklkbfkoliiaa
set_option linter.unusedVariables false
set_option linter.unusedSimpArgs false
open Go.RowKit
def C4.rng (c : C4) : Prop := (0 ≤ c.r ∧ c.r ≤ 255) ∧ (0 ≤ c.g ∧ c.g ≤ 255) ∧ (0 ≤ c.b ∧ c.b ≤ 255) ∧ 0 ≤ c.a ∧ c.a ≤ 255
theorem VW (t : TL) : 0 < (gf t).length := by
 obtain ⟨n, _, bs, e⟩ := xo t
 rw [e]; simp
theorem VX {t : TL} (ht : ∀ c ∈ t.l, c.rng) : isB (gf t) := by
 intro z hz
 unfold gf kY at hz
 obtain ⟨r, hr, hz⟩ := List.mem_flatMap.1 hz
 have hc : r.2 ∈ t.l := by
  rw [← jv t.l]
  unfold kI
  refine List.mem_flatMap.2 ⟨r, hr, ?_⟩
  have := ge (yq t.l) r hr
  exact List.mem_replicate.2 ⟨by omega, rfl⟩
 have hn : r.1 ≤ 64 := by
  have h1 : (qax r.1 r.2).length ≤ (kI (ku t.l)).length := by
   obtain ⟨i, hi, rfl⟩ := List.getElem_of_mem hr
   have := QF hi
   rw [qaG]; omega
  rw [jv, t.h, qaG] at h1
  exact h1
 have hr2 := ht _ hc
 unfold C4.rng at hr2
 unfold Gu at hz
 simp only [List.mem_cons, List.not_mem_nil, or_false] at hz
 rcases hz with rfl | rfl | rfl | rfl | rfl <;> omega
theorem ZD {a b : List Int} (ha : isB a) (hb : isB b) : isB (a ++ b) := fun z hz => (List.mem_append.1 hz).elim (ha z) (hb z)
theorem UV {a : List Int} (ha : isB a) (n : Nat) : isB (a.take n) := fun z hz => ha z (List.mem_of_mem_take hz)
end Go.Proofs.Ytofklkbfkoliiaa
namespace Go.Proofs.Ytofklkbfkoliiaa
set_option linter.unusedVariables false
set_option linter.unusedSimpArgs false
open Go.RowKit
def QO (ts : List TL) : Prop := ∀ t ∈ ts, ∀ c ∈ t.l, c.rng
theorem zR {kn : List TL → TL} : ∀ {ts acc : List TL}, QO ts → isB (qL kn acc ts)
 | [], _, _ => by rw [wX]; intro z hz; cases hz
 | t :: ts, acc, h => by
  rw [qL]
  refine ZD ?_ (zR fun u hu => h u (qaX _ hu))
  split
  ·intro z hz; simp at hz; subst hz; decide
  ·exact VX (h t (qaW ..))
theorem Jx {w h : Int} {ts : List TL} (hr : jb w h ts = true) : w * h = (ts.length : Int) ∧ ts.length ≤ 16 ∧ gB w h = true ∧ (1 ≤ w ∧ w ≤ 4) ∧ 1 ≤ h ∧ h ≤ 4 := by
 have hm := KP hr
 have hb := vW hm
 have hc := Jm hm
 unfold jb at hr
 rw [qan] at hr
 have := of_decide_eq_true hr.2
 exact ⟨by omega, by omega, hm, by omega, by omega⟩
theorem VY (kn : List TL → TL) (w h : Int) (ts : List TL) (rest : List Int) : jX kn ((w :: h :: qL kn [] ts) ++ rest) ts.length [] 2 = some (ts, (w :: h :: qL kn [] ts).length) := by
 have e := xQ kn ((w :: h :: qL kn [] ts) ++ rest) ts.length [] 2 (by simp)
 have e1 : ((w :: h :: qL kn [] ts) ++ rest).drop 2 = qL kn [] ts ++ rest := rfl
 rw [e1, u7] at e
 cases hx : jX kn ((w :: h :: qL kn [] ts) ++ rest) ts.length [] 2 with
 | none => rw [hx] at e; cases e
 | some x =>
  obtain ⟨l, q⟩ := x
  obtain ⟨_, _, h3⟩ := uG (by simp) hx
  rw [hx] at e
  have e : some ([] ++ ts, rest) = some (l, ((w :: h :: qL kn [] ts) ++ rest).drop q) := e
  obtain ⟨g1, g2⟩ := Prod.mk.inj (qao e)
  have := congrArg List.length g2
  rw [qaR] at this
  rw [qap] at h3 this
  rw [show q = (w :: h :: qL kn [] ts).length by omega, ← g1]
  rfl
end Go.Proofs.Ytofklkbfkoliiaa
namespace Go.Proofs.Ytofklkbfkoliiaa
set_option linter.unusedVariables false
set_option linter.unusedSimpArgs false
open Go.RowKit
theorem YJ {kn : List TL → TL} {B : List Int} {n : Nat} {us : List TL} {q : Nat} (h2 : 2 ≤ B.length) (h : jX kn B n [] 2 = some (us, q)) : us.length = n ∧ B.drop 2 = qL kn [] us ++ B.drop q ∧ q ≤ B.length := by
 have e := xQ kn B n [] 2 h2
 rw [h] at e
 obtain ⟨ts, g1, g2, g3⟩ := rdTs_iff.1 (show Kb kn n [] (B.drop 2) = some (us, B.drop q) from e)
 rw [qaw] at g2
 subst g2
 exact ⟨g1, g3, (uG h2 h).2.2⟩
theorem YK {kn : List TL → TL} {B : List Int} {n : Nat} {us : List TL} {q : Nat} (h2 : 2 ≤ B.length) (h : jX kn B n [] 2 = some (us, q)) : B.take q = bAt B 0 :: bAt B 1 :: qL kn [] us ∧ q = (bAt B 0 :: bAt B 1 :: qL kn [] us).length := by
 obtain ⟨_, g2, g3⟩ := YJ h2 h
 have hB : B = (bAt B 0 :: bAt B 1 :: qL kn [] us) ++ B.drop q := by
  have h0 : B = bAt B 0 :: bAt B 1 :: B.drop 2 := by
   have h1 := jc (B := B) (p := 0) (by omega)
   rw [jc (p := 0 + 1) (by omega)] at h1
   exact h1
  rw [qas, qas, ← g2]
  exact h0
 have hl := congrArg List.length hB
 rw [qap, qaR] at hl
 have hq : q = (bAt B 0 :: bAt B 1 :: qL kn [] us).length := by omega
 refine ⟨?_, hq⟩
 have h1 := congrArg (List.take q) hB
 rw [h1, hq, List.take_left']
 rfl
theorem VZ {B : List Int} {n : Nat} {us : List TL} {q : Nat} (h2 : 2 ≤ B.length) (h : jX ka B n [] 2 = some (us, q)) : B.take q = kw (bAt B 0) (bAt B 1) us := (YK h2 h).1
theorem KS (kn : List TL → TL) : ∀ (ts acc : List TL), ts.length ≤ (qL kn acc ts).length
 | [], _ => by rw [wX]; exact qaE _
 | t :: ts, acc => by
  have h1 := KS kn ts (acc ++ [t])
  have h2 := VW t
  rw [qL, qap, qaI]
  split
  ·simp; omega
  ·omega
theorem UW (a b : Int) (ts : List TL) : 2 + ts.length ≤ (kw a b ts).length ∧ (kw a b ts).length ≤ 2 + ts.length * 320 := by
 have h1 := KS ka ts []
 have h2 := wW ka ts []
 have hl : (kw a b ts).length = (qL ka [] ts).length + 2 := rfl
 omega
theorem UX {a b : Int} {ts : List TL} (hr : jb a b ts = true) (h : QO ts) : isB (kw a b ts) := by
 obtain ⟨_, _, _, h1, h2⟩ := Jx hr
 intro z hz
 rcases List.mem_cons.1 (show z ∈ a :: b :: qL ka [] ts from hz) with rfl | hz
 ·omega
 rcases List.mem_cons.1 hz with rfl | hz
 ·omega
 exact zR h z hz
def UY (B : List Int) : Prop := ¬ (0 + 2 ≤ B.length ∧ gB (bAt B 0) (bAt B 1) = true ∧ (jX ka B (bAt B 0 * bAt B 1).toNat [] 2).isSome = true)
theorem UZ {w h : Int} (hm : gB w h = true) : w * h = ((w * h).toNat : Int) ∧ (w * h).toNat ≤ 16 := by
 have := vW hm
 omega
theorem AX (B : List Int) (hB : B.length ≤ 4000000000000000000) (hi : isB B) (hx : UY B) : DFun Try.prog 38 [.slf 1 (B).length ((B).flatMap uc8)] [] (.tup [.val (.agg #[.int .i64 0, .int .i64 0, .slice none 0 0]), .val (.int .i64 0), .val (.int .i64 200)]) [] := by
 by_cases h2 : 0 + 2 ≤ B.length
 ·cases hm : gB (bAt B 0) (bAt B 1) with
  | false => exact AC B hB hi h2 hm
  | true =>
   cases h0 : jX ka B (bAt B 0 * bAt B 1).toNat [] 2 with
   | none => exact AA B hB hi _ h2 hm (UZ hm).1 h0
   | some x => exact absurd ⟨h2, hm, by rw [h0]; rfl⟩ hx
 ·exact AB B hB hi h2
end Go.Proofs.Ytofklkbfkoliiaa
namespace Go.Proofs.Ytofklkbfkoliiaa
set_option linter.unusedVariables false
set_option linter.unusedSimpArgs false
open Go.RowKit
attribute [local irreducible] tkN jP ky
theorem fl88 : fdL Try.prog 88 = some [(0, 1)] := by kernel_rfl
theorem AY : fdO Try.prog 88 0 = some 0 := by kernel_rfl
theorem ni88 : niF Try.prog 88 = true := by kernel_rfl
theorem Hw : tyB Try.prog 121 = some (true, 2) := by kernel_rfl
theorem tb88 : tyB Try.prog 88 = some (true, 1) := by kernel_rfl
theorem zr88 : zrC Try.prog 88 = some [.int .i64 0] := by kernel_rfl
theorem zv88 : zrV Try.prog 88 = some (.agg #[.int .i64 0]) := by kernel_rfl
theorem y1 : DFun Try.prog 16 [.val .nilIface] [] (.val (.int .i64 0)) [] := by
 refine zan (N := 13) 0 (by kernel_rfl) Try.func16 rfl rfl rfl (by simp only [fr0, qal, qam]; exact rfl) rfl fun s0 hs0 => ?_
 refine zah ?_
 refine zaa 1 rfl ?_
 refine zab ?_
 refine zag ?_
 refine zag ?_
 refine zam 1 ?_
 refine zac ?_
 refine zaa 1 rfl ?_
 refine za rfl (Jb rfl ni88 zv88 (ev1 rfl)) ?_
 refine zaa 3 rfl ?_
 refine zaj rfl (zao 0 rfl zr88 rfl) ?_
 refine qc rfl (q0 rfl tb88 (ev1 rfl) (ev1 rfl) rfl rfl rfl rfl) ?_
 refine zaa 1 rfl ?_
 refine zab ?_
 refine zah ?_
 refine zaa 1 rfl ?_
 refine zab ?_
 refine qj rfl (rfl) ?_
 refine qd ?_
 refine zah ?_
 refine zaa 1 rfl ?_
 refine zab ?_
 refine qe ?_
 refine qH (rs1 rfl (qO rfl)) rfl ?_
 rfl
theorem uL (n : Int) : DFun Try.prog 16 [.ifc 88 (.val (.agg #[.int .i64 n]))] [] (.val (.int .i64 n)) [] := by
 refine zan (N := 13) 0 (by kernel_rfl) Try.func16 rfl rfl rfl (by simp only [fr0, qal, qam]; exact rfl) rfl fun s0 hs0 => ?_
 refine zah ?_
 refine zaa 1 rfl ?_
 refine zab ?_
 refine zag ?_
 refine zag ?_
 refine zam 1 ?_
 refine zac ?_
 refine zaa 1 rfl ?_
 refine za rfl (Ja rfl ni88 (ev1 rfl)) ?_
 refine zaa 3 rfl ?_
 refine zaj rfl (zao 0 rfl zr88 rfl) ?_
 refine qc rfl (q0 rfl tb88 (ev1 rfl) (ev1 rfl) rfl rfl rfl rfl) ?_
 refine zaa 1 rfl ?_
 refine zab ?_
 refine zah ?_
 refine zaa 1 rfl ?_
 refine zab ?_
 refine qR rfl (rfl) ?_
 refine zah ?_
 refine za rfl (qa rfl AY (ev1 rfl)) ?_
 refine za rfl (qq rfl qU (ev1 rfl) rfl rfl) ?_
 refine zaa 1 rfl ?_
 refine zab ?_
 refine qe ?_
 refine qH (rs1 rfl (qO rfl)) rfl ?_
 rfl
theorem kg (b : Bool) (e : Int) (h : b = true) : DFun Try.prog 28 [.val (.bool b), .val (.int .i64 e)] [] (.tup []) [] := by
 refine zan (N := 9) 0 (by kernel_rfl) Try.func28 rfl rfl rfl (by simp only [fr0, qal, qam]; exact rfl) rfl fun s0 hs0 => ?_
 refine zah ?_
 refine zaa 1 rfl ?_
 refine za rfl (kX rfl (ev1 rfl)) ?_
 refine zab ?_
 refine qj rfl (by rw [h]; rfl) ?_
 refine qd ?_
 refine qH (qD rfl) rfl ?_
 rfl
theorem j9 (b : Bool) (e : Int) (h : b = false) : DPan Try.prog 28 [.val (.bool b), .val (.int .i64 e)] [] (.ifc 88 (.val (.agg #[.int .i64 e]))) [] := by
 refine zan (N := 9) 0 (by kernel_rfl) Try.func28 rfl rfl rfl (by simp only [fr0, qal, qam]; exact rfl) rfl fun s0 hs0 => ?_
 refine zah ?_
 refine zaa 1 rfl ?_
 refine za rfl (kX rfl (ev1 rfl)) ?_
 refine zab ?_
 refine qR rfl (by rw [h]; rfl) ?_
 refine zac ?_
 refine zaa 1 rfl ?_
 refine za rfl (kW (ps := [(0, .tmp 6)]) rfl fl88 zr88 (vc (ev1 rfl) vn) rfl rfl) ?_
 refine za rfl (xl rfl ni88 (ev1 rfl)) ?_
 refine ke rfl (vR rfl (ev1 rfl)) rfl ?_
 refine JV rfl ?_
 rfl
theorem zS (l : List Int) : DFun Try.prog 30 [.slf 1 (l).length ((l).flatMap uc8), .val (.int .i64 0)] [] (.slf 1 (l).length ((l).flatMap uc8)) [] := by
 refine zan (N := 10) 0 (by kernel_rfl) Try.func30 rfl rfl rfl (by simp only [fr0, qal, qam]; exact rfl) rfl fun s0 hs0 => ?_
 refine kP (t := 0) rfl fun hl0 hL0 => ?_
 refine zah ?_
 refine zaa 1 rfl ?_
 refine zab ?_
 refine zah ?_
 refine zaa 1 rfl ?_
 refine za rfl (qB rfl (ev1 rfl) (ev1 rfl)) ?_
 refine zaa 1 rfl ?_
 refine za rfl (zai [] [] [] rfl (ev1 rfl) (ec (ev1 rfl) (ec (ev1 rfl) en)) rfl rfl (kg _ _ (rfl)) rfl rfl rfl rfl rfl rfl) ?_
 refine zab ?_
 refine zah ?_
 refine zaa 2 rfl ?_
 refine zab ?_
 refine qe ?_
 refine qH (rs1 rfl (qO rfl)) rfl ?_
 rfl
theorem gy (n : Int) : DFun Try.prog 35 [.val (.int .u64 n), .val (.int .i64 0)] [] (.val (.int .u64 n)) [] := by
 refine zan (N := 10) 0 (by kernel_rfl) Try.func35 rfl rfl rfl (by simp only [fr0, qal, qam]; exact rfl) rfl fun s0 hs0 => ?_
 refine zah ?_
 refine zaa 1 rfl ?_
 refine zab ?_
 refine zah ?_
 refine zaa 1 rfl ?_
 refine za rfl (qB rfl (ev1 rfl) (ev1 rfl)) ?_
 refine zaa 1 rfl ?_
 refine za rfl (zai [] [] [] rfl (ev1 rfl) (ec (ev1 rfl) (ec (ev1 rfl) en)) rfl rfl (kg _ _ (rfl)) rfl rfl rfl rfl rfl rfl) ?_
 refine zab ?_
 refine zah ?_
 refine zaa 2 rfl ?_
 refine zab ?_
 refine qe ?_
 refine qH (rs1 rfl (qO rfl)) rfl ?_
 rfl
theorem GR (n e : Int) (h : (e == 0) = false) : DPan Try.prog 35 [.val (.int .u64 n), .val (.int .i64 e)] [] (.ifc 88 (.val (.agg #[.int .i64 e]))) [] := by
 refine zan (N := 10) 0 (by kernel_rfl) Try.func35 rfl rfl rfl (by simp only [fr0, qal, qam]; exact rfl) rfl fun s0 hs0 => ?_
 refine zah ?_
 refine zaa 1 rfl ?_
 refine zab ?_
 refine zah ?_
 refine zaa 1 rfl ?_
 refine za rfl (qB rfl (ev1 rfl) (ev1 rfl)) ?_
 refine zaa 1 rfl ?_
 refine ke rfl (qA [] [] [] rfl (ev1 rfl) (ec (ev1 rfl) (ec (ev1 rfl) en)) rfl rfl (j9 _ _ (h)) rfl rfl rfl rfl rfl rfl) rfl ?_
 refine JV rfl ?_
 rfl
theorem AZ : DFun Try.prog 51 [.slf 1 ([8, 8]).length (([8, 8]).flatMap ic)] [] (.val (.int .i64 16)) [] := by
 refine zan (N := 17) 0 (by kernel_rfl) Try.func51 rfl rfl rfl (by simp only [fr0, qal, qam]; exact rfl) rfl fun s0 hs0 => ?_
 refine kP (t := 0) rfl fun hl0 hL0 => ?_
 refine zah ?_
 refine zaa 1 rfl ?_
 refine zab ?_
 refine zah ?_
 refine zaa 1 rfl ?_
 refine zab ?_
 refine zag ?_
 refine zah ?_
 refine zaa 1 rfl ?_
 refine za rfl (qJ rfl vm (ev1 rfl)) ?_
 refine zaa 1 rfl ?_
 refine zab ?_
 refine qf ?_
 refine yV (kM ?_)
 refine zah ?_
 refine za rfl (qI rfl (ev1 rfl) (ev1 rfl)) ?_
 refine zab ?_
 refine zag ?_
 refine qR rfl (rfl) ?_
 refine qd ?_
 refine zag ?_
 refine qf ?_
 refine zah ?_
 refine za rfl (qS (l := ([8, 8] : List Int)) (en := ic) (j := 0) rfl vm (ev1 rfl) (ev1 rfl) (fun _ => rfl) (by decide) rfl (qaS (qaq rfl))) ?_
 refine za rfl ((qV rfl tb3 (ev1 rfl) rfl).cast (d' := .val (.int .i64 8)) (by rfl)) ?_
 refine zaa 1 rfl ?_
 refine zab ?_
 refine zac ?_
 refine zaa 2 rfl ?_
 refine za rfl (qx rfl (ev1 rfl) (ev1 rfl) (fun _ => qat _ (by omega))) ?_
 refine zaa 1 rfl ?_
 refine zab ?_
 refine zac ?_
 refine za rfl (qx rfl (ev1 rfl) (ev1 rfl) (fun _ => qat _ (by omega))) ?_
 refine zaa 1 rfl ?_
 refine zab ?_
 refine kM ?_
 refine zah ?_
 refine za rfl (qI rfl (ev1 rfl) (ev1 rfl)) ?_
 refine zab ?_
 refine zag ?_
 refine qR rfl (rfl) ?_
 refine qd ?_
 refine zag ?_
 refine qf ?_
 refine zah ?_
 refine za rfl (qS (l := ([8, 8] : List Int)) (en := ic) (j := 1) rfl vm (ev1 rfl) (ev1 rfl) (fun _ => rfl) (by decide) rfl (qaS (qaq rfl))) ?_
 refine za rfl ((qV rfl tb3 (ev1 rfl) rfl).cast (d' := .val (.int .i64 8)) (by rfl)) ?_
 refine zaa 1 rfl ?_
 refine zab ?_
 refine zac ?_
 refine zaa 2 rfl ?_
 refine za rfl (qx rfl (ev1 rfl) (ev1 rfl) (fun _ => qat _ (by omega))) ?_
 refine zaa 1 rfl ?_
 refine zab ?_
 refine zac ?_
 refine za rfl (qx rfl (ev1 rfl) (ev1 rfl) (fun _ => qat _ (by omega))) ?_
 refine zaa 1 rfl ?_
 refine zab ?_
 refine kM ?_
 refine zah ?_
 refine za rfl (qI rfl (ev1 rfl) (ev1 rfl)) ?_
 refine zab ?_
 refine zag ?_
 refine qj rfl (rfl) ?_
 refine qQ ?_
 refine zah ?_
 refine zaa 2 rfl ?_
 refine zab ?_
 refine qe ?_
 refine qH (rs1 rfl (qO rfl)) rfl ?_
 rfl
theorem YL (e : Int) : DDef Try.prog 48 [.loc 0 0] [.flat 27 [.int .i64 e]] none none [.flat 27 [.int .i64 0]] := by
 refine jj (dr := .tup []) (t := 1) (N := 3) 1 (by kernel_rfl) Try.func48 rfl rfl rfl (by simp only [fr0, qal, qam]; exact rfl) rfl rfl rfl rfl rfl fun s0 hs0 => ?_
 refine za rfl (zai [] [] [] rfl (ev1 rfl) (ec (ev1 rfl) en) rfl rfl (yY) rfl rfl rfl rfl rfl rfl) ?_
 refine qc rfl (qG rfl qU (ev1 rfl) (ev1 rfl) rfl) ?_
 refine zab ?_
 refine kc [0] (qD rfl) rfl rfl ?_ ⟨rfl, trivial⟩
 rfl
theorem Hx (w : Nat) (n : Int) (hw : 1 ≤ w ∧ w ≤ 8) (hn : 0 ≤ n ∧ n < (256 ^ w : Nat)) : DFun Try.prog 52 [.val (.int .i64 (w : Int)), .val (.int .u64 n)] [] (.slf 1 (kN w n).length ((kN w n).flatMap uc8)) [] := by
 have h := Ug w hw n (UP hn)
 rw [GM hw hn.1] at h
 exact h
theorem ZE (a b : Int) (ha : 0 ≤ a ∧ a < (256 ^ 8 : Nat)) (hb : 0 ≤ b ∧ b < (256 ^ 8 : Nat)) : DFun Try.prog 31 [.slf 1 ([8, 8]).length (([8, 8]).flatMap ic), .slf 1 ([a, b]).length (([a, b]).flatMap uc)] [] (.tup [.arr 0, .val (.int .i64 0)]) [.arr 5 1 (kN 8 a ++ kN 8 b).length ((kN 8 a ++ kN 8 b).flatMap uc8)] := by
 refine qn (N := 39) 0 (by kernel_rfl) Try.func31 rfl rfl rfl (by simp only [fr0, qal, qam]; exact rfl) rfl fun s0 hs0 => ?_
 refine qF rfl hs0 ?_
 refine zam 1 ?_
 refine zac ?_
 refine zaa 1 rfl ?_
 refine zaj rfl (zao 0 rfl j4 rfl) ?_
 refine zab ?_
 refine qr (l0 := [_]) rfl rfl rfl rfl rfl hs0 ?_
 refine za rfl (qX rfl en (ec (ev1 rfl) en)) ?_
 refine zab ⟨_, _, _, 1, ev1 rfl, qaF hs0 (by decide), rfl, ?_⟩
 have hs1 : s0.M.length ≤ 1 := qaF hs0 (by decide)
 refine qE rfl hs0 ?_
 refine zah ?_
 refine zaa 1 rfl ?_
 refine za rfl (zai [] [] [] rfl (ev1 rfl) (ec (ev1 rfl) en) rfl rfl (yX [8, 8] rfl) rfl rfl rfl rfl rfl rfl) ?_
 refine zab ?_
 refine zag ?_
 refine zah ?_
 refine zaa 1 rfl ?_
 refine za rfl (qJ rfl Vw (ev1 rfl)) ?_
 refine zaa 1 rfl ?_
 refine za rfl (qJ rfl vm (ev1 rfl)) ?_
 refine za rfl (ki rfl (ev1 rfl) (ev1 rfl)) ?_
 refine zab ?_
 refine qj rfl (rfl) ?_
 refine qd ?_
 refine zag ?_
 refine zam 1 ?_
 refine zac ?_
 refine zaa 1 rfl ?_
 refine za rfl (zai [] [] [] rfl (ev1 rfl) (ec (ev1 rfl) en) rfl rfl (AZ) rfl rfl rfl rfl rfl rfl) ?_
 refine zaj rfl (HY 1 (16) rfl qK zr5 (ev1 rfl) (ev1 rfl) (fun _ => rfl) (fun _ => by omega) rfl (fun _ => by omega)) ?_
 refine zaa 1 rfl ?_
 refine zab ?_
 refine zag ?_
 refine zah ?_
 refine zaa 1 rfl ?_
 refine za rfl (qJ rfl vm (ev1 rfl)) ?_
 refine zaa 1 rfl ?_
 refine zab ?_
 refine qf ?_
 refine yV (kM ?_)
 refine zah ?_
 refine za rfl (qI rfl (ev1 rfl) (ev1 rfl)) ?_
 refine zab ?_
 refine zag ?_
 refine qR rfl (rfl) ?_
 refine qd ?_
 refine zag ?_
 refine qf ?_
 refine zah ?_
 refine zaa 1 rfl ?_
 refine za rfl (qS (l := ([8, 8] : List Int)) (en := ic) (j := 0) rfl vm (ev1 rfl) (ev1 rfl) (fun _ => rfl) (by decide) rfl (qaS (qaq rfl))) ?_
 refine za rfl ((qV rfl tb3 (ev1 rfl) rfl).cast (d' := .val (.int .i64 8)) (by rfl)) ?_
 refine zaa 2 rfl ?_
 refine zab ?_
 refine zam 1 ?_
 refine zac ?_
 refine zaa 4 rfl ?_
 refine za rfl (qS (l := ([a, b] : List Int)) (en := uc) (j := 0) rfl Vw (ev1 rfl) (ev1 rfl) (fun _ => rfl) (by decide) rfl (qaS (qaq rfl))) ?_
 refine za rfl (qV rfl kz (ev1 rfl) rfl) ?_
 refine za rfl (zai [] [] [] rfl (ev1 rfl) (ec (ev1 rfl) (ec (ev1 rfl) en)) rfl rfl (Hx 8 _ (by decide) (by assumption)) rfl rfl rfl rfl rfl rfl) ?_
 refine zaj rfl (vd (j := 2) rfl qK zr5 rfl (ev1 rfl) (ev1 rfl) yG rfl rfl (fun _ => yd (fun _ => rfl) _) (fun _ => ⟨by simp only [qap, jQ, qa4]; omega, by simp only [qap, jQ, qa4]; omega⟩)) ?_
 refine zaa 1 rfl ?_
 refine zab ?_
 refine zac ?_
 refine za rfl (qx rfl (ev1 rfl) (ev1 rfl) (fun _ => qat _ (by omega))) ?_
 refine zaa 1 rfl ?_
 refine zab ?_
 refine kM ?_
 refine zah ?_
 refine za rfl (qI rfl (ev1 rfl) (ev1 rfl)) ?_
 refine zab ?_
 refine zag ?_
 refine qR rfl (rfl) ?_
 refine qd ?_
 refine zag ?_
 refine qf ?_
 refine zah ?_
 refine zaa 1 rfl ?_
 refine za rfl (qS (l := ([8, 8] : List Int)) (en := ic) (j := 1) rfl vm (ev1 rfl) (ev1 rfl) (fun _ => rfl) (by decide) rfl (qaS (qaq rfl))) ?_
 refine za rfl ((qV rfl tb3 (ev1 rfl) rfl).cast (d' := .val (.int .i64 8)) (by rfl)) ?_
 refine zaa 2 rfl ?_
 refine zab ?_
 refine zam 1 ?_
 refine zac ?_
 refine zaa 4 rfl ?_
 refine za rfl (qS (l := ([a, b] : List Int)) (en := uc) (j := 1) rfl Vw (ev1 rfl) (ev1 rfl) (fun _ => rfl) (by decide) rfl (qaS (qaq rfl))) ?_
 refine za rfl (qV rfl kz (ev1 rfl) rfl) ?_
 refine za rfl (zai [] [] [] rfl (ev1 rfl) (ec (ev1 rfl) (ec (ev1 rfl) en)) rfl rfl (Hx 8 _ (by decide) (by assumption)) rfl rfl rfl rfl rfl rfl) ?_
 refine zaj rfl (vd (j := 3) rfl qK zr5 rfl (ev1 rfl) (ev1 rfl) yG rfl rfl (fun _ => yd (fun _ => rfl) _) (fun _ => ⟨by simp only [qap, jQ, qa4]; omega, by simp only [qap, jQ, qa4]; omega⟩)) ?_
 refine zaa 1 rfl ?_
 refine zab ?_
 refine zac ?_
 refine za rfl (qx rfl (ev1 rfl) (ev1 rfl) (fun _ => qat _ (by omega))) ?_
 refine zaa 1 rfl ?_
 refine zab ?_
 refine kM ?_
 refine zah ?_
 refine za rfl (qI rfl (ev1 rfl) (ev1 rfl)) ?_
 refine zab ?_
 refine zag ?_
 refine qj rfl (rfl) ?_
 refine qQ ?_
 refine zah ?_
 refine zaa 2 rfl ?_
 refine qc rfl (qG rfl qU (ev1 rfl) (ev1 rfl) rfl) ?_
 refine zab ?_
 refine qe ?_
 refine jO (kH [0] [] rfl rfl (YL _) rfl rfl rfl rfl rfl) ?_
 refine kc [3] (rs2 rfl (qO rfl) (jB qU rfl rfl rfl)) rfl rfl ?_ ⟨?_, trivial⟩
 rfl
 exact vh (by simp [jQ]) (by simp [List.flatMap_append])
theorem ZF (a b : Int) (ha : 0 ≤ a ∧ a < (256 ^ 8 : Nat)) (hb : 0 ≤ b ∧ b < (256 ^ 8 : Nat)) : DFun Try.prog 31 [.slf 1 2 [.int .i64 8, .int .i64 8], .slf 1 2 [.int .u64 a, .int .u64 b]] [] (.tup [.slf 1 (kN 8 a ++ kN 8 b).length ((kN 8 a ++ kN 8 b).flatMap uc8), .val (.int .i64 0)]) [] := yL (ZE a b ha hb) rfl
theorem YM (e : Int) : DDef Try.prog 57 [.loc 0 0] [.flat 27 [.int .i64 e]] none none [.flat 27 [.int .i64 0]] := by
 refine jj (dr := .tup []) (t := 1) (N := 3) 1 (by kernel_rfl) Try.func57 rfl rfl rfl (by simp only [fr0, qal, qam]; exact rfl) rfl rfl rfl rfl rfl fun s0 hs0 => ?_
 refine za rfl (zai [] [] [] rfl (ev1 rfl) (ec (ev1 rfl) en) rfl rfl (yY) rfl rfl rfl rfl rfl rfl) ?_
 refine qc rfl (qG rfl qU (ev1 rfl) (ev1 rfl) rfl) ?_
 refine zab ?_
 refine kc [0] (qD rfl) rfl rfl ?_ ⟨rfl, trivial⟩
 rfl
theorem Jy (e n : Int) : DDef Try.prog 57 [.loc 0 0] [.flat 27 [.int .i64 e]] (some (.ifc 100 (.val (.agg #[.int .i64 n])))) none [.flat 27 [.int .i64 n]] := by
 refine jj (dr := .tup []) (t := 1) (N := 3) 1 (by kernel_rfl) Try.func57 rfl rfl rfl (by simp only [fr0, qal, qam]; exact rfl) rfl rfl rfl rfl rfl fun s0 hs0 => ?_
 refine za rfl (zai [] [] [] rfl (ev1 rfl) (ec (ev1 rfl) en) rfl rfl (xP n) rfl rfl rfl rfl rfl rfl) ?_
 refine qc rfl (qG rfl qU (ev1 rfl) (ev1 rfl) rfl) ?_
 refine zab ?_
 refine kc [0] (qD rfl) rfl rfl ?_ ⟨rfl, trivial⟩
 rfl
theorem yi (l : List Int) (hl : l.length ≤ 2000000) (p : Nat) (h : p + 8 ≤ l.length) : DFun Try.prog 36 [.slf 1 (l).length ((l).flatMap uc8), .val (.int .i64 (p : Int)), .val (.int .i64 8)] [] (.tup [.val (.int .u64 (ky 8 (l.drop p))), .val (.int .i64 0)]) [] := by
 refine qn (N := 29) 0 (by kernel_rfl) Try.func36 rfl rfl rfl (by simp only [fr0, qal, qam]; exact rfl) rfl fun s0 hs0 => ?_
 refine qF rfl hs0 ?_
 refine zam 1 ?_
 refine zac ?_
 refine zaa 1 rfl ?_
 refine zaj rfl (zao 0 rfl j4 rfl) ?_
 refine zab ?_
 refine qr (l0 := [_]) rfl rfl rfl rfl rfl hs0 ?_
 refine za rfl (qX rfl en (ec (ev1 rfl) en)) ?_
 refine zab ⟨_, _, _, 1, ev1 rfl, qaF hs0 (by decide), rfl, ?_⟩
 have hs1 : s0.M.length ≤ 1 := qaF hs0 (by decide)
 refine qE rfl hs0 ?_
 refine zah ?_
 refine zaa 1 rfl ?_
 refine za rfl (xj (ps := [(0, .tmp 10)]) rfl vm zr3 rfl (vc (ev1 rfl) vn) rfl (by decide) (by decide)) ?_
 refine za rfl (zai [] [] [] rfl (ev1 rfl) (ec (ev1 rfl) en) rfl rfl (yX [8] rfl) rfl rfl rfl rfl rfl rfl) ?_
 refine zab ?_
 refine zag ?_
 refine zah ?_
 refine zaa 1 rfl ?_
 refine za rfl (qI rfl (ev1 rfl) (ev1 rfl)) ?_
 refine zaa 1 rfl ?_
 refine zak (qm rfl rfl rfl) rfl rfl rfl (zal (.inl rfl) (ev1 rfl)) ?_
 refine zak (qm rfl rfl rfl) rfl rfl rfl (zal (.inl rfl) (ev1 rfl)) ?_
 refine zak (qm rfl rfl rfl) rfl rfl rfl (qJ rfl qK (ev2 rfl)) ?_
 refine zak (qm rfl rfl rfl) rfl rfl rfl (kD rfl (ev2 rfl) (ev2 rfl)) ?_
 refine za rfl (kC rfl (ev1 rfl) (ev3 rfl id)) ?_
 refine zab ?_
 refine qj rfl (by simp; omega) ?_
 refine qd ?_
 refine zag ?_
 refine zam 1 ?_
 refine zac ?_
 refine zaa 2 rfl ?_
 refine za rfl (gO (i := p) rfl qK (ev1 rfl) (ji (ev1 rfl)) (fun _ => by omega) (fun _ => by omega) (fun _ => rfl)) ?_
 refine za rfl (Jf rfl W8 Gn (ev1 rfl) rfl) ?_
 refine zaj rfl (zao 1 rfl Gn rfl) ?_
 refine qc rfl (kL rfl Hw (ev1 rfl) (ev1 rfl) rfl rfl rfl rfl) ?_
 refine zab ?_
 refine zah ?_
 refine zaa 1 rfl ?_
 refine zaj rfl (zai [1] [] [] rfl (ev1 rfl) (ec (ev1 rfl) (ec (ev1 rfl) en)) rfl rfl (KI _ (l.drop p) (by rw [qaR]; omega) 0 8 (by rw [qaR]; omega)) rfl rfl rfl rfl rfl rfl) ?_
 refine zaa 1 rfl ?_
 refine qc rfl (qG rfl qU (ev1 rfl) (ev1 rfl) rfl) ?_
 refine zab ?_
 refine qe ?_
 refine jO (kH [0] [] rfl rfl (YM _) rfl rfl rfl rfl rfl) ?_
 refine qH (rs2 rfl (qO rfl) (jB qU rfl rfl rfl)) rfl ?_
 rfl
theorem QP (l : List Int) (hl : l.length ≤ 2000000) (p : Nat) (hp : p ≤ l.length) (h : l.length < p + 8) : DFun Try.prog 36 [.slf 1 (l).length ((l).flatMap uc8), .val (.int .i64 (p : Int)), .val (.int .i64 8)] [] (.tup [.val (.int .u64 0), .val (.int .i64 110)]) [] := by
 refine qn (N := 29) 0 (by kernel_rfl) Try.func36 rfl rfl rfl (by simp only [fr0, qal, qam]; exact rfl) rfl fun s0 hs0 => ?_
 refine qF rfl hs0 ?_
 refine zam 1 ?_
 refine zac ?_
 refine zaa 1 rfl ?_
 refine zaj rfl (zao 0 rfl j4 rfl) ?_
 refine zab ?_
 refine qr (l0 := [_]) rfl rfl rfl rfl rfl hs0 ?_
 refine za rfl (qX rfl en (ec (ev1 rfl) en)) ?_
 refine zab ⟨_, _, _, 1, ev1 rfl, qaF hs0 (by decide), rfl, ?_⟩
 have hs1 : s0.M.length ≤ 1 := qaF hs0 (by decide)
 refine qE rfl hs0 ?_
 refine zah ?_
 refine zaa 1 rfl ?_
 refine za rfl (xj (ps := [(0, .tmp 10)]) rfl vm zr3 rfl (vc (ev1 rfl) vn) rfl (by decide) (by decide)) ?_
 refine za rfl (zai [] [] [] rfl (ev1 rfl) (ec (ev1 rfl) en) rfl rfl (yX [8] rfl) rfl rfl rfl rfl rfl rfl) ?_
 refine zab ?_
 refine zag ?_
 refine zah ?_
 refine zaa 1 rfl ?_
 refine za rfl (qI rfl (ev1 rfl) (ev1 rfl)) ?_
 refine zaa 1 rfl ?_
 refine zak (qm rfl rfl rfl) rfl rfl rfl (zal (.inl rfl) (ev1 rfl)) ?_
 refine zak (qm rfl rfl rfl) rfl rfl rfl (zal (.inl rfl) (ev1 rfl)) ?_
 refine zak (qm rfl rfl rfl) rfl rfl rfl (qJ rfl qK (ev2 rfl)) ?_
 refine zak (qm rfl rfl rfl) rfl rfl rfl (kD rfl (ev2 rfl) (ev2 rfl)) ?_
 refine za rfl (kC rfl (ev1 rfl) (ev3 rfl id)) ?_
 refine zab ?_
 refine qj rfl (by simp; omega) ?_
 refine qd ?_
 refine zag ?_
 refine zam 1 ?_
 refine zac ?_
 refine zaa 2 rfl ?_
 refine za rfl (gO (i := p) rfl qK (ev1 rfl) (ji (ev1 rfl)) (fun _ => by omega) (fun _ => by omega) (fun _ => rfl)) ?_
 refine za rfl (Jf rfl W8 Gn (ev1 rfl) rfl) ?_
 refine zaj rfl (zao 1 rfl Gn rfl) ?_
 refine qc rfl (kL rfl Hw (ev1 rfl) (ev1 rfl) rfl rfl rfl rfl) ?_
 refine zab ?_
 refine zah ?_
 refine zaa 1 rfl ?_
 refine ke rfl (qA [1] [] [] rfl (ev1 rfl) (ec (ev1 rfl) (ec (ev1 rfl) en)) rfl rfl (zH _ (l.drop p) 0 8 (by rw [qaR]; omega)) rfl rfl rfl rfl rfl rfl) rfl ?_
 refine jO (qP [0] [] rfl rfl rfl (Jy _ _) rfl rfl rfl rfl rfl) ?_
 refine qH (rs2 rfl (qO rfl) (jB qU rfl rfl rfl)) rfl ?_
 rfl
end Go.Proofs.Ytofklkbfkoliiaa
namespace Go.Proofs.Ytofklkbfkoliiaa
set_option linter.unusedVariables false
set_option linter.unusedSimpArgs false
open Go.RowKit
attribute [local irreducible] tkN jP ky
theorem A0 (n : Nat) (h : n ≤ 100000000) : DFun Try.prog 44 [.val (.slice none 0 0), .val (.int .i64 (n : Int))] [] (.arr 0) [.arr 5 1 (0) ((([] : List Int)).flatMap uc8)] := by
 refine zan (N := 27) 0 (by kernel_rfl) Try.func44 rfl rfl rfl (by simp only [fr0, qal, qam]; exact rfl) rfl fun s0 hs0 => ?_
 refine zah ?_
 refine zaa 1 rfl ?_
 refine zab ?_
 refine zag ?_
 refine zah ?_
 refine zaa 1 rfl ?_
 refine za rfl (qI rfl (ev1 rfl) (ev1 rfl)) ?_
 refine zab ?_
 refine qj rfl (by simp) ?_
 refine qd ?_
 refine zag ?_
 refine zah ?_
 refine zaa 2 rfl ?_
 refine za rfl (Qh rfl qK (ev1 rfl)) ?_
 refine zaa 1 rfl ?_
 refine za rfl (qJ rfl qK (WM 1 (ev1 rfl))) ?_
 refine za rfl (jy rfl (ev1 rfl) (ev1 rfl) (fun _ => qat _ (by decide))) ?_
 refine za rfl (jy rfl (ev1 rfl) (ev1 rfl) (fun _ => qat _ (by simp; omega))) ?_
 refine zaa 1 rfl ?_
 refine zab ?_
 refine zah ?_
 refine zaa 1 rfl ?_
 refine za rfl (kD rfl (ev1 rfl) (ev1 rfl)) ?_
 refine zab ?_
 refine qv rfl (fun c2 => ?_) (fun c2 => ?_)
 ·try simp only [decide_eq_true_eq, decide_eq_false_iff_not, beq_iff_eq, bne_iff_ne, beq_eq_false_iff_ne, bne_eq_false_iff_eq, qau, qay, qan, qaA, qar, ne_eq, Decidable.not_not, qaO, qaP] at c2
  refine zam 2 ?_
  refine zac ?_
  refine zaa 2 rfl ?_
  refine za rfl (Qh rfl qK (ev1 rfl)) ?_
  refine za rfl (H7 rfl qK (ev1 rfl) (ji (ev1 rfl))) ?_
  refine zaa 1 rfl ?_
  refine zaj rfl (H8 (n := n) (j := 0) rfl qK Try.underlying3 zr5 rfl (by decide) (ev1 rfl) (ev1 rfl) (fun _ => by simp) (fun _ => by simp at c2; omega) rfl (fun _ => ⟨by omega, by omega⟩)) ?_
  refine zaa 1 rfl ?_
  refine za rfl (qJ rfl qK (WM 1 (ev1 rfl))) ?_
  refine zaj rfl (H9 (j := 1) rfl qK (ev1 rfl) rfl (ji (ev1 rfl)) rfl) ?_
  refine zaa 1 rfl ?_
  refine zab ?_
  refine zah ?_
  refine zaa 2 rfl ?_
  refine zab ?_
  refine qe ?_
  refine kc [1] (rs1 rfl (qO rfl)) rfl rfl ?_ ⟨rfl, trivial⟩
  rfl
 ·try simp only [decide_eq_true_eq, decide_eq_false_iff_not, beq_iff_eq, bne_iff_ne, beq_eq_false_iff_ne, bne_eq_false_iff_eq, qau, qay, qan, qaA, qar, ne_eq, Decidable.not_not, qaO, qaP] at c2
  refine qd ?_
  refine zah ?_
  refine zaa 2 rfl ?_
  refine zab ?_
  refine Ks 4 5 1 rfl rfl rfl ?_
  refine qe ?_
  refine kc [0] (rs1 rfl (qO rfl)) rfl rfl ?_ ⟨rfl, trivial⟩
  rfl
def tkL (ps : List (List Int)) (k : Nat) : Nat := (ps.take k).flatten.length
theorem uM {ps : List (List Int)} {k : Nat} (h : k < ps.length) : tkL ps (k + 1) = tkL ps k + ps[k].length := by
 unfold tkL; rw [qaU h, List.flatten_append, qap]; simp
theorem QQ (ps : List (List Int)) : tkL ps ps.length = ps.flatten.length := by unfold tkL; rw [List.take_length]
theorem Jz (ps : List (List Int)) (k : Nat) : tkL ps k ≤ ps.flatten.length := by
 have h : (ps.take k ++ ps.drop k).flatten.length = ps.flatten.length := by rw [List.take_append_drop]
 rw [List.flatten_append, qap] at h
 unfold tkL
 omega
theorem U0 (ps : List (List Int)) (hT : ps.flatten.length ≤ 100000000) : DFun Try.prog 24 [.slm 1 (ps).length ((ps).flatMap fun p => [.slf 1 (p).length ((p).flatMap uc8)])] [] (.arr 0) [.arr 5 1 (ps.flatten.length) ((ps.flatten).flatMap uc8)] := by
 refine zan (N := 36) 0 (by kernel_rfl) Try.func24 rfl rfl rfl (by simp only [fr0, qal, qam]; exact rfl) rfl fun s0 hs0 => ?_
 refine ur (t := 0) rfl fun hl0 hL0 => ?_
 refine zah ?_
 refine zaa 1 rfl ?_
 refine zab ?_
 refine zah ?_
 refine zaa 1 rfl ?_
 refine zab ?_
 refine zag ?_
 refine zah ?_
 refine zaa 1 rfl ?_
 refine za rfl (jA rfl gu (ev1 rfl)) ?_
 refine zaa 1 rfl ?_
 refine zab ?_
 refine qf ?_
 refine qY ⟨hs0, rfl⟩ (α := Nat) (fun k => [(3, .val (.int .i64 (tkL ps k : Nat))), (11, .val (.int .i64 (k : Int)))]) [(0, _), (9, _), (10, _)] (fun k => []) [] (fun k => k ≤ ps.length) (fun k => ps.length - k) 0 [] (by simp) rfl ⟨rfl, rfl, rfl, trivial⟩ ⟨rfl, rfl, trivial⟩ trivial ?_
 intro k hx
 simp only [upd, zad, zaf, qas, qaw]
 have hk := hx
 have htk := Jz ps k
 refine zah ?_
 refine za rfl (qI rfl (ev1 rfl) (ev1 rfl)) ?_
 refine zab ?_
 refine zag ?_
 refine qv rfl (fun c1 => ?_) (fun c1 => ?_)
 ·try simp only [decide_eq_true_eq, decide_eq_false_iff_not, beq_iff_eq, bne_iff_ne, beq_eq_false_iff_ne, bne_eq_false_iff_eq, qau, qay, qan, qaA, qar, ne_eq, Decidable.not_not, qaO, qaP] at c1
  refine qd ?_
  refine zag ?_
  refine qf ?_
  refine zah ?_
  refine za rfl (vi (k) rfl gu (ev1 rfl) (ev1 rfl) (fun _ => rfl) (vU (by omega))) ?_
  refine za rfl (gq rfl kS (ev1 rfl) rfl) ?_
  refine zaa 1 rfl ?_
  refine zab ?_
  refine zag ?_
  have htl := Jz ps (k + 1)
  rw [uM (by omega)] at htl
  refine zac ?_
  refine zaa 2 rfl ?_
  refine za rfl (qJ rfl qK (ev1 rfl)) ?_
  refine za rfl (qx rfl (ev1 rfl) (ev1 rfl) (fun _ => qat _ (by omega))) ?_
  refine zaa 1 rfl ?_
  refine zab ?_
  refine zah ?_
  refine zaa 1 rfl ?_
  refine za rfl (qI rfl (ev1 rfl) (ev1 rfl)) ?_
  refine zab ?_
  refine qj rfl (by simp; omega) ?_
  refine qd ?_
  refine zac ?_
  refine za rfl (qx rfl (ev1 rfl) (ev1 rfl) (fun _ => qat _ (by omega))) ?_
  refine zaa 1 rfl ?_
  refine zab ?_
  refine ⟨k + 1, [], by omega, by simp only []; omega, rfl, ⟨by rw [uM (by omega)]; rfl, rfl, rfl, rfl, rfl, trivial⟩, trivial⟩
 ·try simp only [decide_eq_true_eq, decide_eq_false_iff_not, beq_iff_eq, bne_iff_ne, beq_eq_false_iff_ne, bne_eq_false_iff_eq, qau, qay, qan, qaA, qar, ne_eq, Decidable.not_not, qaO, qaP] at c1
  refine qQ ?_
  refine zag ?_
  obtain rfl : k = ps.length := by omega
  rw [QQ]
  refine zam 1 ?_
  refine zac ?_
  refine zaa 1 rfl ?_
  refine zaj rfl (zai [] [] [0] rfl (ev1 rfl) (ec (ev1 rfl) (ec (ev1 rfl) en)) rfl rfl (A0 _ hT) rfl rfl rfl rfl rfl rfl) ?_
  refine zaa 1 rfl ?_
  refine zab ?_
  refine zag ?_
  refine zah ?_
  refine zaa 1 rfl ?_
  refine za rfl (jA rfl gu (ev1 rfl)) ?_
  refine zaa 1 rfl ?_
  refine zab ?_
  refine qf ?_
  refine qY ⟨hs0, rfl⟩ (α := Nat) (fun k => [(27, .val (.int .i64 (k : Int)))]) [(6, _), (25, _), (26, _)] (fun k => [(0, .arr 5 1 ((tkL ps k)) (((ps.take k).flatten).flatMap uc8))]) [.hole] (fun k => k ≤ ps.length) (fun k => ps.length - k) 0 [0] (by simp) rfl ⟨rfl, rfl, rfl, trivial⟩ ⟨rfl, trivial⟩ ⟨rfl, trivial⟩ ?_
  intro k hx
  simp only [upd, zad, zaf, qas, qaw]
  have hk := hx
  have htk := Jz ps k
  refine zah ?_
  refine za rfl (qI rfl (ev1 rfl) (ev1 rfl)) ?_
  refine zab ?_
  refine zag ?_
  refine qv rfl (fun c3 => ?_) (fun c3 => ?_)
  ·try simp only [decide_eq_true_eq, decide_eq_false_iff_not, beq_iff_eq, bne_iff_ne, beq_eq_false_iff_ne, bne_eq_false_iff_eq, qau, qay, qan, qaA, qar, ne_eq, Decidable.not_not, qaO, qaP] at c3
   refine qd ?_
   refine zag ?_
   refine qf ?_
   refine zah ?_
   refine za rfl (vi (k) rfl gu (ev1 rfl) (ev1 rfl) (fun _ => rfl) (vU (by omega))) ?_
   refine za rfl (gq rfl kS (ev1 rfl) rfl) ?_
   refine zaa 1 rfl ?_
   refine zab ?_
   have htl := Jz ps (k + 1)
   rw [uM (by omega)] at htl
   refine zam 1 ?_
   refine zac ?_
   refine zaa 2 rfl ?_
   refine zaj rfl (vd (j := 1) rfl qK zr5 rfl (ev1 rfl) (ev1 rfl) yG rfl rfl (fun _ => yd (fun _ => rfl) _) (fun _ => ⟨by omega, by omega⟩)) ?_
   refine zaa 1 rfl ?_
   refine zab ?_
   refine zac ?_
   refine za rfl (qx rfl (ev1 rfl) (ev1 rfl) (fun _ => qat _ (by omega))) ?_
   refine zaa 1 rfl ?_
   refine zab ?_
   refine ⟨k + 1, [1], by omega, by simp only []; omega, rfl, ⟨rfl, rfl, rfl, rfl, trivial⟩, ⟨by rw [uM (by omega), qaU (by omega), List.flatten_append, List.flatten_singleton]; exact vh rfl (by simp), trivial⟩⟩
  ·try simp only [decide_eq_true_eq, decide_eq_false_iff_not, beq_iff_eq, bne_iff_ne, beq_eq_false_iff_ne, bne_eq_false_iff_eq, qau, qay, qan, qaA, qar, ne_eq, Decidable.not_not, qaO, qaP] at c3
   refine qQ ?_
   refine zah ?_
   refine zaa 2 rfl ?_
   refine zab ?_
   refine qe ?_
   obtain rfl : k = ps.length := by omega
   rw [QQ, List.take_length]
   refine kc [0] (rs1 rfl (qO rfl)) rfl rfl ?_ ⟨rfl, trivial⟩
   rfl
theorem GS (ps : List (List Int)) (n : Nat) (L : List D) (h1 : n = ps.length) (h2 : L = ps.flatMap fun p => [.slf 1 (p).length ((p).flatMap uc8)]) (hT : ps.flatten.length ≤ 100000000) : DFun Try.prog 24 [.slm 1 n L] [] (.slf 1 (ps.flatten).length ((ps.flatten).flatMap uc8)) [] := by
 subst h1 h2; exact yL (U0 ps hT) rfl
end Go.Proofs.Ytofklkbfkoliiaa
namespace Go.Proofs.Ytofklkbfkoliiaa
set_option linter.unusedVariables false
set_option linter.unusedSimpArgs false
open Go.RowKit
attribute [local irreducible] tkN jP ky
theorem fl35 : fdL Try.prog 35 = some [(0, 1), (1, 1), (2, 1), (3, 1)] := by kernel_rfl
theorem yA : fdO Try.prog 32 0 = some 0 := by kernel_rfl
theorem wZ : fdO Try.prog 32 1 = some 1 := by kernel_rfl
theorem gI : fdO Try.prog 32 2 = some 2 := by kernel_rfl
theorem gZ : fdO Try.prog 35 0 = some 0 := by kernel_rfl
theorem yB : fdO Try.prog 35 1 = some 1 := by kernel_rfl
theorem yP : fdO Try.prog 35 2 = some 2 := by kernel_rfl
theorem YN : fdO Try.prog 35 3 = some 3 := by kernel_rfl
theorem xb : tyB Try.prog 30 = some (false, 1) := by kernel_rfl
theorem kJ : tyB Try.prog 32 = some (true, 3) := by kernel_rfl
theorem Ke : zrC Try.prog 35 = some [.int .u64 0, .int .i64 0, .int .i64 0, .slice none 0 0] := by kernel_rfl
structure PcM where
 sn : Int
 ix : Int
 mn : Int
 b : List Int
deriving DecidableEq
structure PiM where
 sn : Int
 mn : Int
 ps : List (List Int)
deriving DecidableEq
def pcD (p : PcM) : List D := [.val (.int .u64 p.sn), .val (.int .i64 p.ix), .val (.int .i64 p.mn), .slf 1 (p.b).length ((p.b).flatMap uc8)]
def rwB (b : List Int) : D := .slf 1 (b).length ((b).flatMap uc8)
def piD (p : PiM) : List D := [.val (.int .u64 p.sn), .val (.int .i64 p.mn), .slm 1 p.ps.length (p.ps.flatMap fun b => [rwB b])]
def Hy (ix mn n : Int) : Bool := (n == 256) || ((ix == mn - 1) && decide (1 ≤ n) && decide (n < 256))
def snB (n : Int) : Bool := decide (1 ≤ n) && decide (n ≤ 4611686018427387904)
def pcB (p : PcM) : Bool := snB p.sn && decide (1 ≤ p.mn) && decide (p.mn ≤ 64) && decide (0 ≤ p.ix) && decide (p.ix < p.mn) && Hy p.ix p.mn p.b.length
theorem pcB_iff {p : PcM} : pcB p = true ↔ (1 ≤ p.sn ∧ p.sn ≤ 4611686018427387904) ∧ (1 ≤ p.mn ∧ p.mn ≤ 64) ∧ (0 ≤ p.ix ∧ p.ix < p.mn) ∧ (p.b.length = 256 ∨ (p.ix = p.mn - 1 ∧ 1 ≤ p.b.length ∧ p.b.length < 256)) := by
 unfold pcB snB Hy
 simp only [qan, qaA, decide_eq_true_eq, beq_iff_eq]
 omega
def emp (b : List Int) : Bool := ((b.length : Nat) : Int) == 0
theorem emp_iff {b : List Int} : emp b = true ↔ b = [] := by
 unfold emp
 simp
def jK : List (List Int) → Int → Int
 | [], _ => -1
 | b :: r, k => if emp b = true then k else jK r (k + 1)
theorem zU {ps : List (List Int)} {k : Nat} (h : k < ps.length) : jK (ps.drop k) (k : Int) = if emp ps[k] = true then (k : Int) else jK (ps.drop (k + 1)) ((k + 1 : Nat) : Int) := by
 rw [List.drop_eq_getElem_cons h, jK]
 rfl
theorem V0 {ps : List (List Int)} {k : Nat} (h : ps.length ≤ k) (i : Int) : jK (ps.drop k) i = -1 := by
 rw [List.drop_of_length_le h, jK]
def noB (p : PiM) : Bool := ((p.sn == 0) && (p.mn == 0)) && ((p.ps.length : Int) == 0)
def xA (sn mn : Int) : List (List Int) → Int → Bool
 | [], _ => true
 | b :: r, k => (emp b || pcB ⟨sn, k, mn, b⟩) && xA sn mn r (k + 1)
theorem xc {sn mn : Int} {ps : List (List Int)} {k : Nat} (h : k < ps.length) : xA sn mn (ps.drop k) (k : Int) = ((emp ps[k] || pcB ⟨sn, k, mn, ps[k]⟩) && xA sn mn (ps.drop (k + 1)) ((k + 1 : Nat) : Int)) := by
 rw [List.drop_eq_getElem_cons h, xA]
 rfl
theorem GT {sn mn : Int} {ps : List (List Int)} {k : Nat} (h : ps.length ≤ k) (i : Int) : xA sn mn (ps.drop k) i = true := by
 rw [List.drop_of_length_le h, xA]
def v4 : List (List Int) → Nat
 | [] => 0
 | b :: r => (if emp b = true then 0 else 1) + v4 r
theorem KT {ps : List (List Int)} {k : Nat} (h : k < ps.length) : v4 (ps.take (k + 1)) = v4 (ps.take k) + if emp ps[k] = true then 0 else 1 := by
 induction ps generalizing k with
 | nil => simp at h
 | cons b r ih =>
  cases k with
  | zero => simp [v4]
  | succ k =>
   rw [List.take_succ_cons, List.take_succ_cons, v4, v4, ih (by simpa using h), Nat.add_assoc]
   rfl
theorem ZG (ps : List (List Int)) : v4 ps ≤ ps.length := by
 induction ps with
 | nil => simp [v4]
 | cons b r ih => rw [v4, qaI]; split <;> omega
def kZ (p : PiM) : Bool := noB p || (xA p.sn p.mn p.ps 0 && !(((v4 p.ps : Nat) : Int) == 0) && ((p.ps.length : Int) == p.mn))
theorem w4 (p : PcM) : DFun Try.prog 22 [.agg (pcD p)] [] (.val (.int .i64 (vV (pcB p) 311))) [] := by
 refine zan (N := 55) 0 (by kernel_rfl) Try.func22 rfl rfl rfl (by simp only [fr0, qal, qam]; exact rfl) rfl fun s0 hs0 => ?_
 refine zag ?_
 refine zam 1 ?_
 refine zac ?_
 refine zaj rfl (qz 0 rfl (ev1 rfl) rfl) ?_
 refine zaa 1 rfl ?_
 refine zab ?_
 refine zag ?_
 refine zah ?_
 refine za rfl (qa rfl gZ (ev1 rfl)) ?_
 refine za rfl (qb rfl kz (ev1 rfl) rfl rfl) ?_
 refine za rfl (qI rfl (ev1 rfl) (ev1 rfl)) ?_
 refine zaa 1 rfl ?_
 refine zak (qm rfl rfl rfl) rfl rfl rfl (qa rfl gZ (ev1 rfl)) ?_
 refine zak (qm rfl rfl rfl) rfl rfl rfl (qb rfl kz (ev2 rfl) rfl rfl) ?_
 refine zak (qm rfl rfl rfl) rfl rfl rfl (kD rfl (ev2 rfl) (ev1 rfl)) ?_
 refine za rfl (kC rfl (ev1 rfl) (ev3 rfl id)) ?_
 refine zaa 1 rfl ?_
 refine zak (qm rfl rfl rfl) rfl rfl rfl (qa rfl yP (ev1 rfl)) ?_
 refine zak (qm rfl rfl rfl) rfl rfl rfl (qb rfl tb3 (ev2 rfl) rfl rfl) ?_
 refine zak (qm rfl rfl rfl) rfl rfl rfl (qI rfl (ev2 rfl) (ev1 rfl)) ?_
 refine za rfl (kC rfl (ev1 rfl) (ev3 rfl id)) ?_
 refine zaa 1 rfl ?_
 refine zak (qm rfl rfl rfl) rfl rfl rfl (qa rfl yP (ev1 rfl)) ?_
 refine zak (qm rfl rfl rfl) rfl rfl rfl (qb rfl tb3 (ev2 rfl) rfl rfl) ?_
 refine zak (qm rfl rfl rfl) rfl rfl rfl (kD rfl (ev2 rfl) (ev1 rfl)) ?_
 refine za rfl (kC rfl (ev1 rfl) (ev3 rfl id)) ?_
 refine zaa 1 rfl ?_
 refine zak (qm rfl rfl rfl) rfl rfl rfl (qa rfl yB (ev1 rfl)) ?_
 refine zak (qm rfl rfl rfl) rfl rfl rfl (qb rfl tb3 (ev2 rfl) rfl rfl) ?_
 refine zak (qm rfl rfl rfl) rfl rfl rfl (qI rfl (ev2 rfl) (ev1 rfl)) ?_
 refine za rfl (kC rfl (ev1 rfl) (ev3 rfl id)) ?_
 refine zaa 1 rfl ?_
 refine zak (qm rfl rfl rfl) rfl rfl rfl (qa rfl yB (ev1 rfl)) ?_
 refine zak (qm rfl rfl rfl) rfl rfl rfl (qb rfl tb3 (ev2 rfl) rfl rfl) ?_
 refine zak (qm rfl rfl rfl) rfl rfl rfl (qa rfl yP (ev1 rfl)) ?_
 refine zak (qm rfl rfl rfl) rfl rfl rfl (qb rfl tb3 (ev2 rfl) rfl rfl) ?_
 refine zak (qm rfl rfl rfl) rfl rfl rfl (gi rfl (ev2 rfl) (ev2 rfl)) ?_
 refine za rfl (kC rfl (ev1 rfl) (ev3 rfl id)) ?_
 refine zab ?_
 refine qv rfl (fun c1 => ?_) (fun c1 => ?_)
 ·try simp only [decide_eq_true_eq, decide_eq_false_iff_not, beq_iff_eq, bne_iff_ne, beq_eq_false_iff_ne, bne_eq_false_iff_eq, qau, qay, qan, qaA, qar, ne_eq, Decidable.not_not, qaO, qaP] at c1
  refine zah ?_
  refine zaa 1 rfl ?_
  refine zab ?_
  refine qe ?_
  refine qH (rs1 rfl (qO rfl)) rfl ?_
  have h : pcB p = false := by
   rw [Bool.eq_false_iff]; intro h; have h := pcB_iff.1 h; omega
  rw [h]
  rfl
 ·try simp only [decide_eq_true_eq, decide_eq_false_iff_not, beq_iff_eq, bne_iff_ne, beq_eq_false_iff_ne, bne_eq_false_iff_eq, qau, qay, qan, qaA, qar, ne_eq, Decidable.not_not, qaO, qaP] at c1
  refine qd ?_
  refine zag ?_
  refine zah ?_
  refine za rfl (qa rfl YN (ev1 rfl)) ?_
  refine za rfl (qb rfl kS (ev1 rfl) rfl rfl) ?_
  refine za rfl (qJ rfl qK (ev1 rfl)) ?_
  refine zaa 1 rfl ?_
  refine zab ?_
  refine zah ?_
  refine zaa 1 rfl ?_
  refine za rfl (qI rfl (ev1 rfl) (ev1 rfl)) ?_
  refine zaa 1 rfl ?_
  refine zak (qm rfl rfl rfl) rfl rfl rfl (zal (.inl rfl) (ev1 rfl)) ?_
  refine zak (qm rfl rfl rfl) rfl rfl rfl (kD rfl (ev2 rfl) (ev1 rfl)) ?_
  refine za rfl (kC rfl (ev1 rfl) (ev3 rfl id)) ?_
  refine zaa 1 rfl ?_
  refine zak (qm rfl rfl rfl) rfl rfl rfl (zal (.inl rfl) (ev1 rfl)) ?_
  refine zak (qm rfl rfl rfl) rfl rfl rfl (qI rfl (ev2 rfl) (ev1 rfl)) ?_
  refine zak (qm rfl rfl rfl) rfl rfl rfl (zal (.inl rfl) (ev2 rfl)) ?_
  refine zak (kx rfl rfl rfl) rfl rfl rfl (qa rfl yB (ev1 rfl)) ?_
  refine zak (kx rfl rfl rfl) rfl rfl rfl (qb rfl tb3 (ev2 rfl) rfl rfl) ?_
  refine zak (kx rfl rfl rfl) rfl rfl rfl (qa rfl yP (ev1 rfl)) ?_
  refine zak (kx rfl rfl rfl) rfl rfl rfl (qb rfl tb3 (ev2 rfl) rfl rfl) ?_
  refine zak (kx rfl rfl rfl) rfl rfl rfl (jy rfl (ev2 rfl) (ev1 rfl) (fun hp => qat _ (by first | omega | (simp at hp; omega)))) ?_
  refine zak (kx rfl rfl rfl) rfl rfl rfl (qI rfl (ev2 rfl) (ev2 rfl)) ?_
  refine zak (qm rfl rfl rfl) rfl rfl rfl (q9 rfl (ev2 rfl) (ev2 rfl)) ?_
  refine za rfl (kC rfl (ev1 rfl) (ev3 rfl id)) ?_
  refine zab ?_
  refine qv rfl (fun c2 => ?_) (fun c2 => ?_)
  ·try simp only [decide_eq_true_eq, decide_eq_false_iff_not, beq_iff_eq, bne_iff_ne, beq_eq_false_iff_ne, bne_eq_false_iff_eq, qau, qay, qan, qaA, qar, ne_eq, Decidable.not_not, qaO, qaP] at c2
   refine zah ?_
   refine zaa 1 rfl ?_
   refine zab ?_
   refine qe ?_
   refine qH (rs1 rfl (qO rfl)) rfl ?_
   have h : pcB p = false := by
    rw [Bool.eq_false_iff]; intro h; have h := pcB_iff.1 h; omega
   rw [h]
   rfl
  ·try simp only [decide_eq_true_eq, decide_eq_false_iff_not, beq_iff_eq, bne_iff_ne, beq_eq_false_iff_ne, bne_eq_false_iff_eq, qau, qay, qan, qaA, qar, ne_eq, Decidable.not_not, qaO, qaP] at c2
   refine qd ?_
   refine zah ?_
   refine zaa 1 rfl ?_
   refine zab ?_
   refine qe ?_
   refine qH (rs1 rfl (qO rfl)) rfl ?_
   have h : pcB p = true := by
    rw [pcB_iff]
    rw [Bool.and_eq_false_iff, decide_eq_false_iff_not, decide_eq_false_iff_not] at c2
    omega
   rw [h]
   rfl
theorem ZH (b : List Int) : DFun Try.prog 43 [.slf 1 (b).length ((b).flatMap uc8)] [] (.val (.bool (emp b))) [] := by
 refine zan (N := 6) 0 (by kernel_rfl) Try.func43 rfl rfl rfl (by simp only [fr0, qal, qam]; exact rfl) rfl fun s0 hs0 => ?_
 refine kP (t := 0) rfl fun hl0 hL0 => ?_
 refine zah ?_
 refine zaa 1 rfl ?_
 refine zab ?_
 refine zah ?_
 refine zaa 1 rfl ?_
 refine za rfl (qJ rfl qK (ev1 rfl)) ?_
 refine za rfl (qB rfl (ev1 rfl) (ev1 rfl)) ?_
 refine zaa 1 rfl ?_
 refine zab ?_
 refine qe ?_
 refine qH (rs1 rfl (qO rfl)) rfl ?_
 rfl
theorem ixf_d (ps : List (List Int)) : DFun Try.prog 66 [.slm 1 (ps).length ((ps).flatMap fun b => [rwB b]), .fn (.func 43) [] []] [] (.val (.int .i64 (jK ps 0))) [] := by
 refine zan (N := 19) 0 (by kernel_rfl) Try.func66 rfl rfl rfl (by simp only [fr0, qal, qam]; exact rfl) rfl fun s0 hs0 => ?_
 refine ur (t := 0) rfl fun hl0 hL0 => ?_
 refine zah ?_
 refine zaa 1 rfl ?_
 refine zab ?_
 refine zag ?_
 refine zah ?_
 refine zaa 1 rfl ?_
 refine za rfl (jA rfl gu (ev1 rfl)) ?_
 refine zaa 1 rfl ?_
 refine zab ?_
 refine qf ?_
 refine qY ⟨hs0, rfl⟩ (α := Nat) (fun k => [(8, .val (.int .i64 (k : Int)))]) [(0, _), (1, _), (7, _)] (fun k => []) [] (fun k => k ≤ ps.length ∧ jK ps 0 = jK (ps.drop k) (k : Int)) (fun k => ps.length - k) 0 [] (by simp) rfl ⟨rfl, rfl, rfl, trivial⟩ ⟨rfl, trivial⟩ trivial ?_
 intro k hx
 simp only [upd, zad, zaf, qas, qaw]
 obtain ⟨hk, he⟩ := hx
 refine zah ?_
 refine za rfl (qI rfl (ev1 rfl) (ev1 rfl)) ?_
 refine zab ?_
 refine zag ?_
 refine qv rfl (fun c1 => ?_) (fun c1 => ?_)
 ·try simp only [decide_eq_true_eq, decide_eq_false_iff_not, beq_iff_eq, bne_iff_ne, beq_eq_false_iff_ne, bne_eq_false_iff_eq, qau, qay, qan, qaA, qar, ne_eq, Decidable.not_not, qaO, qaP] at c1
  refine qd ?_
  refine zag ?_
  refine qf ?_
  refine zah ?_
  refine zaa 2 rfl ?_
  refine zab ?_
  refine zah ?_
  refine zaa 3 rfl ?_
  refine za rfl (vi (k) rfl gu (ev1 rfl) (ev1 rfl) (fun _ => rfl) (vU (by omega))) ?_
  refine za rfl (gq rfl kS (ev1 rfl) rfl) ?_
  refine za rfl (zai [] [] [] rfl (ev1 rfl) (ec (ev1 rfl) en) rfl rfl (ZH _) rfl rfl rfl rfl rfl rfl) ?_
  refine zab ?_
  refine qv rfl (fun c2 => ?_) (fun c2 => ?_)
  ·refine zah ?_
   refine zaa 2 rfl ?_
   refine zab ?_
   refine qe ?_
   refine qH (rs1 rfl (qO rfl)) rfl ?_
   rw [he, zU (by omega), if_pos c2]
  ·refine qd ?_
   refine zac ?_
   refine za rfl (qx rfl (ev1 rfl) (ev1 rfl) (fun _ => qat _ (by omega))) ?_
   refine zaa 1 rfl ?_
   refine zab ?_
   refine ⟨k + 1, [], ⟨by omega, by rw [he, zU (by omega), if_neg (by rw [c2]; decide)]⟩, by simp only []; omega, rfl, ⟨rfl, rfl, rfl, rfl, trivial⟩, trivial⟩
 ·try simp only [decide_eq_true_eq, decide_eq_false_iff_not, beq_iff_eq, bne_iff_ne, beq_eq_false_iff_ne, bne_eq_false_iff_eq, qau, qay, qan, qaA, qar, ne_eq, Decidable.not_not, qaO, qaP] at c1
  refine qQ ?_
  refine zah ?_
  refine zaa 1 rfl ?_
  refine zab ?_
  refine qe ?_
  refine qH (rs1 rfl (qO rfl)) rfl ?_
  rw [he, V0 (by omega)]
theorem ZI (ps : List (List Int)) : DFun Try.prog 42 [.slm 1 (ps).length ((ps).flatMap fun b => [rwB b]), .fn (.func 43) [] []] [] (.val (.int .i64 (jK ps 0))) [] := by
 refine zan (N := 8) 0 (by kernel_rfl) Try.func42 rfl rfl rfl (by simp only [fr0, qal, qam]; exact rfl) rfl fun s0 hs0 => ?_
 refine ur (t := 0) rfl fun hl0 hL0 => ?_
 refine zah ?_
 refine zaa 1 rfl ?_
 refine zab ?_
 refine zah ?_
 refine zaa 2 rfl ?_
 refine za rfl (zai [] [] [] rfl (ev1 rfl) (ec (ev1 rfl) (ec (ev1 rfl) en)) rfl rfl (ixf_d _) rfl rfl rfl rfl rfl rfl) ?_
 refine zaa 1 rfl ?_
 refine zab ?_
 refine qe ?_
 refine qH (rs1 rfl (qO rfl)) rfl ?_
 rfl
theorem xd (p : PiM) : DFun Try.prog 23 [.agg (piD p)] [] (.val (.int .i64 (jK p.ps 0))) [] := by
 refine zan (N := 6) 0 (by kernel_rfl) Try.func23 rfl rfl rfl (by simp only [fr0, qal, qam]; exact rfl) rfl fun s0 hs0 => ?_
 refine zag ?_
 refine zam 1 ?_
 refine zac ?_
 refine zaj rfl (qz 0 rfl (ev1 rfl) rfl) ?_
 refine zaa 1 rfl ?_
 refine zab ?_
 refine zah ?_
 refine za rfl (qa rfl gI (ev1 rfl)) ?_
 refine za rfl (qb rfl xb (ev1 rfl) rfl rfl) ?_
 refine za rfl (zai [] [] [] rfl (ev1 rfl) (ec (ev1 rfl) (ec (ev1 rfl) en)) rfl rfl (ZI _) rfl rfl rfl rfl rfl rfl) ?_
 refine zaa 1 rfl ?_
 refine zab ?_
 refine qe ?_
 refine qH (rs1 rfl (qO rfl)) rfl ?_
 rfl
theorem wn (p : PiM) : DFun Try.prog 21 [.agg (piD p)] [] (.val (.bool (noB p))) [] := by
 refine zan (N := 17) 0 (by kernel_rfl) Try.func21 rfl rfl rfl (by simp only [fr0, qal, qam]; exact rfl) rfl fun s0 hs0 => ?_
 refine zag ?_
 refine zam 1 ?_
 refine zac ?_
 refine zaj rfl (qz 0 rfl (ev1 rfl) rfl) ?_
 refine zaa 1 rfl ?_
 refine zab ?_
 refine zah ?_
 refine za rfl (qa rfl yA (ev1 rfl)) ?_
 refine za rfl (qb rfl kz (ev1 rfl) rfl rfl) ?_
 refine za rfl (qB rfl (ev1 rfl) (ev1 rfl)) ?_
 refine zaa 1 rfl ?_
 refine zak (qC rfl rfl rfl) rfl rfl rfl (qa rfl wZ (ev1 rfl)) ?_
 refine zak (qC rfl rfl rfl) rfl rfl rfl (qb rfl tb3 (ev2 rfl) rfl rfl) ?_
 refine zak (qC rfl rfl rfl) rfl rfl rfl (qB rfl (ev2 rfl) (ev1 rfl)) ?_
 refine za rfl (q9 rfl (ev1 rfl) (ev3 rfl id)) ?_
 refine zaa 1 rfl ?_
 refine zak (qC rfl rfl rfl) rfl rfl rfl (qa rfl gI (ev1 rfl)) ?_
 refine zak (qC rfl rfl rfl) rfl rfl rfl (qb rfl xb (ev2 rfl) rfl rfl) ?_
 refine zak (qC rfl rfl rfl) rfl rfl rfl (jA rfl gu (ev2 rfl)) ?_
 refine zak (qC rfl rfl rfl) rfl rfl rfl (qB rfl (ev2 rfl) (ev1 rfl)) ?_
 refine za rfl (q9 rfl (ev1 rfl) (ev3 rfl id)) ?_
 refine zaa 1 rfl ?_
 refine zab ?_
 refine qe ?_
 refine qH (rs1 rfl (qO rfl)) rfl ?_
 rfl
theorem zV (p : PiM) (hn : p.ps.length ≤ 5000) : DFun Try.prog 7 [.agg (piD p)] [] (.val (.int .i64 (vV (kZ p) 312))) [] := by
 refine zan (N := 41) 0 (by kernel_rfl) Try.func7 rfl rfl rfl (by simp only [fr0, qal, qam]; exact rfl) rfl fun s0 hs0 => ?_
 refine zag ?_
 refine zam 1 ?_
 refine zac ?_
 refine zaj rfl (qz 0 rfl (ev1 rfl) rfl) ?_
 refine zaa 1 rfl ?_
 refine zab ?_
 refine zag ?_
 refine zah ?_
 refine za rfl (qi rfl kJ (ev1 rfl) rfl rfl) ?_
 refine za rfl (zai [] [] [] rfl (ev1 rfl) (ec (ev1 rfl) en) rfl rfl (wn _) rfl rfl rfl rfl rfl rfl) ?_
 refine zab ?_
 refine qv rfl (fun c1 => ?_) (fun c1 => ?_)
 ·refine zah ?_
  refine zaa 1 rfl ?_
  refine zab ?_
  refine qe ?_
  refine qH (rs1 rfl (qO rfl)) rfl ?_
  have h : kZ p = true := by unfold kZ; rw [c1]; rfl
  rw [h]
  rfl
 ·refine qd ?_
  refine zah ?_
  refine zaa 1 rfl ?_
  refine zab ?_
  refine zag ?_
  refine zah ?_
  refine za rfl (qa rfl gI (ev1 rfl)) ?_
  refine za rfl (qb rfl xb (ev1 rfl) rfl rfl) ?_
  refine za rfl (jA rfl gu (ev1 rfl)) ?_
  refine zaa 1 rfl ?_
  refine zab ?_
  refine qf ?_
  refine qY ⟨hs0, rfl⟩ (α := Nat) (fun k => [(3, .val (.int .i64 (v4 (p.ps.take k) : Nat))), (11, .val (.int .i64 (k : Int)))]) [(1, _), (9, _), (10, _)] (fun k => []) [_] (fun k => k ≤ p.ps.length ∧ xA p.sn p.mn p.ps 0 = xA p.sn p.mn (p.ps.drop k) (k : Int)) (fun k => p.ps.length - k) 0 [0] (by simp) rfl ⟨rfl, rfl, rfl, trivial⟩ ⟨rfl, rfl, trivial⟩ ⟨rfl, trivial⟩ ?_
  intro k hx
  simp only [upd, zad, zaf, qas, qaw]
  obtain ⟨hk, he⟩ := hx
  have hct := ZG (p.ps.take k)
  rw [qaN] at hct
  refine zah ?_
  refine za rfl (qI rfl (ev1 rfl) (ev1 rfl)) ?_
  refine zab ?_
  refine zag ?_
  refine qv rfl (fun c2 => ?_) (fun c2 => ?_)
  ·try simp only [decide_eq_true_eq, decide_eq_false_iff_not, beq_iff_eq, bne_iff_ne, beq_eq_false_iff_ne, bne_eq_false_iff_eq, qau, qay, qan, qaA, qar, ne_eq, Decidable.not_not, qaO, qaP] at c2
   refine qd ?_
   refine zag ?_
   refine qf ?_
   refine zah ?_
   refine zaa 1 rfl ?_
   refine za rfl (vi (k) rfl gu (ev1 rfl) (ev1 rfl) (fun _ => rfl) (vU (by omega))) ?_
   refine za rfl (gq rfl kS (ev1 rfl) rfl) ?_
   refine zaa 2 rfl ?_
   refine zab ?_
   refine zag ?_
   refine zah ?_
   refine zaa 1 rfl ?_
   refine za rfl (qJ rfl qK (ev1 rfl)) ?_
   refine za rfl (qB rfl (ev1 rfl) (ev1 rfl)) ?_
   refine zab ?_
   refine qv rfl (fun c3 => ?_) (fun c3 => ?_)
   ·have c3 : emp p.ps[k] = true := c3
    refine qQ ?_
    refine zac ?_
    refine za rfl (qx rfl (ev1 rfl) (ev1 rfl) (fun _ => qat _ (by omega))) ?_
    refine zaa 1 rfl ?_
    refine zab ?_
    refine ⟨k + 1, [0], ⟨by omega, by rw [he, xc (by omega), c3, Bool.true_or, Bool.true_and]⟩, by simp only []; omega, rfl, ⟨by rw [KT (by omega), if_pos c3]; rfl, rfl, rfl, rfl, rfl, trivial⟩, ⟨rfl, trivial⟩⟩
   ·have c3 : emp p.ps[k] = false := c3
    refine qd ?_
    refine zag ?_
    refine zah ?_
    refine za rfl (qa rfl yA (ev1 rfl)) ?_
    refine za rfl (qb rfl kz (ev1 rfl) rfl rfl) ?_
    refine zaa 1 rfl ?_
    refine za rfl (qa rfl wZ (ev1 rfl)) ?_
    refine za rfl (qb rfl tb3 (ev1 rfl) rfl rfl) ?_
    refine zaa 1 rfl ?_
    refine za rfl (jW (ps := [(0, .tmp 20), (1, .tmp 21), (2, .tmp 23), (3, .tmp 24)]) rfl fl35 Ke (ec (ev1 rfl) (ec (ev1 rfl) (ec (ev1 rfl) (ec (ev1 rfl) en)))) rfl rfl rfl) ?_
    refine za rfl (zai [] [] [] rfl (ev1 rfl) (ec (ev1 rfl) en) rfl rfl (w4 ⟨p.sn, k, p.mn, p.ps[k]⟩) rfl rfl rfl rfl rfl rfl) ?_
    refine za rfl (ki rfl (ev1 rfl) (ev1 rfl)) ?_
    refine zab ?_
    refine qv rfl (fun c5 => ?_) (fun c5 => ?_)
    ·have c4 : pcB ⟨p.sn, k, p.mn, p.ps[k]⟩ = false := by
      cases h : pcB ⟨p.sn, k, p.mn, p.ps[k]⟩ with
      | false => rfl
      | true => rw [h] at c5; cases c5
     refine zah ?_
     refine zaa 1 rfl ?_
     refine zab ?_
     refine qe ?_
     refine qH (rs1 rfl (qO rfl)) rfl ?_
     have h : kZ p = false := by
      unfold kZ
      rw [he, xc (by omega), c3, c4, c1]
      rfl
     rw [h]
     rfl
    ·have c4 : pcB ⟨p.sn, k, p.mn, p.ps[k]⟩ = true := by
      cases h : pcB ⟨p.sn, k, p.mn, p.ps[k]⟩ with
      | true => rfl
      | false => rw [h] at c5; cases c5
     refine qd ?_
     refine zac ?_
     refine zaa 1 rfl ?_
     refine za rfl (qx rfl (ev1 rfl) (ev1 rfl) (fun _ => qat _ (by omega))) ?_
     refine zaa 1 rfl ?_
     refine zab ?_
     refine zac ?_
     refine za rfl (qx rfl (ev1 rfl) (ev1 rfl) (fun _ => qat _ (by omega))) ?_
     refine zaa 1 rfl ?_
     refine zab ?_
     refine ⟨k + 1, [0], ⟨by omega, by rw [he, xc (by omega), c4, Bool.or_true, Bool.true_and]⟩, by simp only []; omega, rfl, ⟨by rw [KT (by omega), if_neg (by rw [c3]; decide)]; rfl, rfl, rfl, rfl, rfl, trivial⟩, ⟨rfl, trivial⟩⟩
  ·try simp only [decide_eq_true_eq, decide_eq_false_iff_not, beq_iff_eq, bne_iff_ne, beq_eq_false_iff_ne, bne_eq_false_iff_eq, qau, qay, qan, qaA, qar, ne_eq, Decidable.not_not, qaO, qaP] at c2
   refine qQ ?_
   refine zag ?_
   refine zag ?_
   obtain rfl : k = p.ps.length := by omega
   rw [List.take_length]
   refine zac ?_
   refine zaa 1 rfl ?_
   refine za rfl (qB rfl (ev1 rfl) (ev1 rfl)) ?_
   refine zaa 1 rfl ?_
   refine zak (qm rfl rfl rfl) rfl rfl rfl (qa rfl gI (ev1 rfl)) ?_
   refine zak (qm rfl rfl rfl) rfl rfl rfl (qb rfl xb (ev2 rfl) rfl rfl) ?_
   refine zak (qm rfl rfl rfl) rfl rfl rfl (jA rfl gu (ev2 rfl)) ?_
   refine zak (qm rfl rfl rfl) rfl rfl rfl (qa rfl wZ (ev1 rfl)) ?_
   refine zak (qm rfl rfl rfl) rfl rfl rfl (qb rfl tb3 (ev2 rfl) rfl rfl) ?_
   refine zak (qm rfl rfl rfl) rfl rfl rfl (ki rfl (ev2 rfl) (ev2 rfl)) ?_
   refine za rfl (kC rfl (ev1 rfl) (ev3 rfl id)) ?_
   refine zab ?_
   refine qv rfl (fun c6 => ?_) (fun c6 => ?_)
   ·refine zah ?_
    refine zaa 1 rfl ?_
    refine zab ?_
    refine qe ?_
    refine qH (rs1 rfl (qO rfl)) rfl ?_
    have h : kZ p = false := by
     unfold kZ
     rw [c1, he, GT (qaE _)]
     simp at c6 ⊢
     omega
    rw [h]
    rfl
   ·refine qd ?_
    refine zah ?_
    refine zaa 1 rfl ?_
    refine zab ?_
    refine qe ?_
    refine qH (rs1 rfl (qO rfl)) rfl ?_
    have h : kZ p = true := by
     unfold kZ
     rw [he, GT (qaE _)]
     simp at c6 ⊢
     omega
    rw [h]
    rfl
end Go.Proofs.Ytofklkbfkoliiaa
namespace Go.Proofs.Ytofklkbfkoliiaa
set_option linter.unusedVariables false
set_option linter.unusedSimpArgs false
open Go.RowKit
attribute [local irreducible] tkN jP ky
theorem fl32 : fdL Try.prog 32 = some [(0, 1), (1, 1), (2, 1)] := by kernel_rfl
theorem fl68 : fdL Try.prog 68 = some [(0, 3)] := by kernel_rfl
theorem je : fdO Try.prog 68 0 = some 0 := by kernel_rfl
theorem j5 : tyB Try.prog 35 = some (true, 4) := by kernel_rfl
theorem wu : zrC Try.prog 32 = some [.int .u64 0, .int .i64 0, .slice none 0 0] := by kernel_rfl
theorem zr68 : zrC Try.prog 68 = some [.int .u64 0, .int .i64 0, .slice none 0 0] := by kernel_rfl
theorem GU {e : TypeId} {n : Nat} : ∀ s h, BlkOk s h (.arr e 1 n (qax (n * 1) (Value.slice none 0 0))) → BlkOk s h (.arx e 1 (qax n ([] : List Int)).length ((qax n ([] : List Int)).flatMap fun b => [rwB b])) := fun s h hk => by
 rw [qaG]
 rw [Nat.mul_one] at hk
 have e0 : ((qax n ([] : List Int)).flatMap fun b => [rwB b]) = qax n (rwB []) := by
  clear hk
  induction n with
  | zero => rfl
  | succ n ih => rw [List.replicate_succ, qaD, List.replicate_succ, ih]; rfl
 rw [e0]
 refine ⟨_, hk, by simp, fun j d v h1 h2 => ?_⟩
 obtain rfl := List.eq_of_mem_replicate (qa0 h1)
 obtain rfl := List.eq_of_mem_replicate (qa0 h2)
 exact Wk.slf0 1 s _ (.val _)
theorem ZJ {ps : List (List Int)} {k : Nat} (h : k < ps.length) : (ps.take k ++ qax (ps.length - k) []).set k ps[k] = ps.take (k + 1) ++ qax (ps.length - (k + 1)) [] := by
 rw [List.set_append_right _ _ (by rw [qaN]; omega), qaN, Nat.min_eq_left (Nat.le_of_lt h), Nat.sub_self]
 rw [show ps.length - k = (ps.length - (k + 1)) + 1 by omega, List.replicate_succ, zad, qaU h, qaQ]
 rfl
theorem ZK (ps : List (List Int)) {k : Nat} (h : k ≤ ps.length) : (ps.take k ++ qax (ps.length - k) ([] : List Int)).length = ps.length := by
 rw [qap, qaN, qaG]
 omega
theorem w5 (p : PiM) (hn : p.ps.length ≤ 5000) (hb : ∀ b ∈ p.ps, b.length ≤ 100000) (hp : kZ p = true) : DFun Try.prog 19 [.agg (piD p)] [] (.loc 0 0) [.mix 68 [.val (.int .u64 p.sn), .val (.int .i64 p.mn), .arr 1], .arx 23 1 (p.ps).length ((p.ps).flatMap fun b => [rwB b])] := by
 refine zan (N := 33) 0 (by kernel_rfl) Try.func19 rfl rfl rfl (by simp only [fr0, qal, qam]; exact rfl) rfl fun s0 hs0 => ?_
 refine zag ?_
 refine zam 1 ?_
 refine zac ?_
 refine zaj rfl (qz 0 rfl (ev1 rfl) rfl) ?_
 refine zaa 1 rfl ?_
 refine zab ?_
 refine zah ?_
 refine za rfl (qi rfl kJ (ev1 rfl) rfl rfl) ?_
 refine za rfl (zai [] [] [] rfl (ev1 rfl) (ec (ev1 rfl) en) rfl rfl (zV p hn) rfl rfl rfl rfl rfl rfl) ?_
 refine za rfl (qB rfl (ev1 rfl) (ev1 rfl)) ?_
 refine za rfl (zai [] [] [] rfl (ev1 rfl) (ec (ev1 rfl) (ec (ev1 rfl) en)) rfl rfl (kg _ _ (by rw [hp]; rfl)) rfl rfl rfl rfl rfl rfl) ?_
 refine zab ?_
 refine zag ?_
 refine zam 1 ?_
 refine zac ?_
 refine za rfl (qa rfl gI (ev1 rfl)) ?_
 refine za rfl (qb rfl xb (ev1 rfl) rfl rfl) ?_
 refine za rfl (jA rfl gu (ev1 rfl)) ?_
 refine zaj rfl (Yr 1 (p.ps.length) (.slice none 0 0) rfl gu Uf (rfl) (by decide) (ev1 rfl) (ev1 rfl) (fun _ => by omega) (fun _ => by omega) rfl (fun _ => by omega)) ?_
 refine zaa 1 rfl ?_
 refine zab ?_
 refine zag ?_
 refine zag ?_
 refine kQ 1 GU rfl rfl (by simp only [qas, qaw, zad, zaf, List.map]; exact rfl) ?_
 refine zac ?_
 refine za rfl (qa rfl gI (ev1 rfl)) ?_
 refine za rfl (qb rfl xb (ev1 rfl) rfl rfl) ?_
 refine za rfl (jA rfl gu (ev1 rfl)) ?_
 refine zaa 1 rfl ?_
 refine zab ?_
 refine qf ?_
 refine qY ⟨hs0, rfl⟩ (α := Nat) (fun k => [(17, .val (.int .i64 (k : Int)))]) [(1, _), (3, _), (15, _), (16, _)] (fun k => [(1, .arx 23 1 p.ps.length ((p.ps.take k ++ qax (p.ps.length - k) ([] : List Int)).flatMap fun b => [rwB b]))]) [_, .hole] (fun k => k ≤ p.ps.length) (fun k => p.ps.length - k) 0 [0, 1] (by simp) rfl ⟨rfl, rfl, rfl, rfl, trivial⟩ ⟨rfl, trivial⟩ ⟨rfl, qy (qaG ..) rfl (fun _ => rfl), trivial⟩ ?_
 intro k hx
 simp only [upd, zad, zaf, qas, qaw]
 have hk := hx
 refine zah ?_
 refine za rfl (qI rfl (ev1 rfl) (ev1 rfl)) ?_
 refine zab ?_
 refine zag ?_
 refine qv rfl (fun c1 => ?_) (fun c1 => ?_)
 ·try simp only [decide_eq_true_eq, decide_eq_false_iff_not, beq_iff_eq, bne_iff_ne, beq_eq_false_iff_ne, bne_eq_false_iff_eq, qau, qay, qan, qaA, qar, ne_eq, Decidable.not_not, qaO, qaP] at c1
  refine qd ?_
  refine zag ?_
  refine qf ?_
  refine zah ?_
  refine zaa 1 rfl ?_
  refine za rfl (vi (k) rfl gu (ev1 rfl) (ev1 rfl) (fun _ => rfl) (vU (by omega))) ?_
  refine za rfl (gq rfl kS (ev1 rfl) rfl) ?_
  refine zaa 2 rfl ?_
  refine zab ?_
  refine zac ?_
  refine zaa 3 rfl ?_
  refine za rfl (zai [] [] [] rfl (ev1 rfl) (ec (ev1 rfl) en) rfl rfl (y0 p.ps[k] (by have := hb _ (qa7 (show k < p.ps.length by omega)); omega)) rfl rfl rfl rfl rfl rfl) ?_
  refine za rfl (uY (k) rfl gu (ev1 rfl) (ev1 rfl) rfl (fun _ => rfl) (fun _ => by omega)) ?_
  refine qc rfl (Jh (j := k) (g := rwB) (q := p.ps[k]) rfl kS (ev1 rfl) (ev1 rfl) rfl (by rw [ZK _ (by omega)]; omega) (fun s v h => by cases h <;> exact ⟨rfl, rfl⟩)) ?_
  refine zab ?_
  refine zac ?_
  refine za rfl (qx rfl (ev1 rfl) (ev1 rfl) (fun _ => qat _ (by omega))) ?_
  refine zaa 1 rfl ?_
  refine zab ?_
  refine ⟨k + 1, [0, 1], by omega, by simp only []; omega, rfl, ⟨rfl, rfl, rfl, rfl, rfl, trivial⟩, ⟨rfl, qy rfl (ZJ (by omega)) (fun _ => rfl), trivial⟩⟩
 ·try simp only [decide_eq_true_eq, decide_eq_false_iff_not, beq_iff_eq, bne_iff_ne, beq_eq_false_iff_ne, bne_eq_false_iff_eq, qau, qay, qan, qaA, qar, ne_eq, Decidable.not_not, qaO, qaP] at c1
  refine qQ ?_
  refine zag ?_
  obtain rfl : k = p.ps.length := by omega
  rw [List.take_length, Nat.sub_self, List.replicate_zero, qa6]
  refine zac ?_
  refine zaa 1 rfl ?_
  refine za rfl (qa rfl gI (ev1 rfl)) ?_
  refine qc rfl (kF rfl xb (ev1 rfl) (ev1 rfl) (fun s v h => by cases h <;> exact ⟨rfl, rfl⟩) rfl (by first | decide | exact qaq rfl | simp)) ?_
  refine zab ?_
  refine zag ?_
  refine zam 1 ?_
  refine zac ?_
  refine za rfl (qi rfl kJ (ev1 rfl) rfl rfl) ?_
  refine za rfl (Y8 rfl (ev1 rfl) fl68 zr68 rfl) ?_
  refine zaj rfl (qz 2 rfl (ev1 rfl) rfl) ?_
  refine zaa 1 rfl ?_
  refine zab ?_
  refine qe ?_
  refine kc [2, 1] (rs1 rfl (qO rfl)) rfl rfl ?_ ⟨?_, ?_, trivial⟩
  rfl
  rfl
  exact qy rfl rfl (fun _ => rfl)
theorem U1 {ps : List (List Int)} {j : Nat} (h : j < ps.length) : (ps.flatMap fun b => [rwB b])[j * 1]? = some (rwB ps[j]) := by
 rw [Nat.mul_one]
 induction ps generalizing j with
 | nil => simp at h
 | cons b r ih =>
  cases j with
  | zero => rfl
  | succ j =>
   rw [qaD]
   exact ih (by simpa using h)
theorem U2 (p : PiM) (x : PcM) (hx : pcB x = false) : DPan Try.prog 20 [.loc 0 0, .agg (pcD x)] [.mix 68 [.val (.int .u64 p.sn), .val (.int .i64 p.mn), .arr 1], .arx 23 1 (p.ps).length ((p.ps).flatMap fun b => [rwB b])] (.ifc 88 (.val (.agg #[.int .i64 311]))) [.mix 68 [.val (.int .u64 p.sn), .val (.int .i64 p.mn), .arr 1], .arx 23 1 (p.ps).length ((p.ps).flatMap fun b => [rwB b])] := by
 refine zan (N := 68) 2 (by kernel_rfl) Try.func20 rfl rfl rfl (by simp only [fr0, qal, qam]; exact rfl) rfl fun s0 hs0 => ?_
 refine zag ?_
 refine zam 1 ?_
 refine zac ?_
 refine zaj rfl (qz 2 rfl (ev1 rfl) rfl) ?_
 refine zab ?_
 refine zah ?_
 refine za rfl (qi rfl j5 (ev1 rfl) rfl rfl) ?_
 refine za rfl (zai [] [] [] rfl (ev1 rfl) (ec (ev1 rfl) en) rfl rfl (w4 x) rfl rfl rfl rfl rfl rfl) ?_
 refine za rfl (qB rfl (ev1 rfl) (ev1 rfl)) ?_
 refine ke rfl (qA [] [] [] rfl (ev1 rfl) (ec (ev1 rfl) (ec (ev1 rfl) en)) rfl rfl (j9 _ _ (by rw [hx]; rfl)) rfl rfl rfl rfl rfl rfl) rfl ?_
 refine K9 [0, 1] rfl rfl ?_ ⟨rfl, qy rfl rfl (fun _ => rfl), trivial⟩
 rfl
theorem U3 (p : PiM) (x : PcM) (hx : pcB x = true) (h2 : x.sn < p.sn) : DPan Try.prog 20 [.loc 0 0, .agg (pcD x)] [.mix 68 [.val (.int .u64 p.sn), .val (.int .i64 p.mn), .arr 1], .arx 23 1 (p.ps).length ((p.ps).flatMap fun b => [rwB b])] (.ifc 88 (.val (.agg #[.int .i64 241]))) [.mix 68 [.val (.int .u64 p.sn), .val (.int .i64 p.mn), .arr 1], .arx 23 1 (p.ps).length ((p.ps).flatMap fun b => [rwB b])] := by
 refine zan (N := 68) 2 (by kernel_rfl) Try.func20 rfl rfl rfl (by simp only [fr0, qal, qam]; exact rfl) rfl fun s0 hs0 => ?_
 refine zag ?_
 refine zam 1 ?_
 refine zac ?_
 refine zaj rfl (qz 2 rfl (ev1 rfl) rfl) ?_
 refine zab ?_
 refine zah ?_
 refine za rfl (qi rfl j5 (ev1 rfl) rfl rfl) ?_
 refine za rfl (zai [] [] [] rfl (ev1 rfl) (ec (ev1 rfl) en) rfl rfl (w4 x) rfl rfl rfl rfl rfl rfl) ?_
 refine za rfl (qB rfl (ev1 rfl) (ev1 rfl)) ?_
 refine za rfl (zai [] [] [] rfl (ev1 rfl) (ec (ev1 rfl) (ec (ev1 rfl) en)) rfl rfl (kg _ _ (by rw [hx]; rfl)) rfl rfl rfl rfl rfl rfl) ?_
 refine zab ?_
 refine zag ?_
 refine yp 8 [([], []), ([2], []), ([], []), ([], []), ([], []), ([], []), ([0], []), ([], [])] qW (by kernel_rfl) rfl rfl ?_
 refine zae rfl rfl (qa rfl gZ (ev1 rfl)) ?_
 refine zae rfl rfl (qb rfl kz (ev1 rfl) rfl rfl) ?_
 refine zae rfl rfl (zal (.inl rfl) (ev1 rfl)) ?_
 refine zae rfl rfl (qt rfl (ev1 rfl) (fun s v h => by cases h; exact ⟨_, rfl⟩)) ?_
 refine zae rfl rfl (qa rfl je (ev1 rfl)) ?_
 refine zae rfl rfl (qa rfl yA (ev1 rfl)) ?_
 refine zae rfl rfl (qb rfl kz (ev1 rfl) rfl rfl) ?_
 refine zae rfl rfl (gi rfl (ev1 rfl) (ev1 rfl)) ?_
 refine qu ⟨_, _, _, rfl, qA [] [] [] rfl (ev1 rfl) (ec (ev1 rfl) (ec (ev1 rfl) en)) rfl rfl (j9 _ _ (by simp; omega)) rfl rfl rfl rfl rfl rfl, ?_⟩
 refine K9 [0, 1] rfl rfl ?_ ⟨rfl, qy rfl rfl (fun _ => rfl), trivial⟩
 rfl
theorem U4 (p : PiM) (x : PcM) (hx : pcB x = true) (h2 : x.sn = p.sn) (h3 : x.mn ≠ p.mn) : DPan Try.prog 20 [.loc 0 0, .agg (pcD x)] [.mix 68 [.val (.int .u64 p.sn), .val (.int .i64 p.mn), .arr 1], .arx 23 1 (p.ps).length ((p.ps).flatMap fun b => [rwB b])] (.ifc 88 (.val (.agg #[.int .i64 311]))) [.mix 68 [.val (.int .u64 p.sn), .val (.int .i64 p.mn), .arr 1], .arx 23 1 (p.ps).length ((p.ps).flatMap fun b => [rwB b])] := by
 refine zan (N := 68) 2 (by kernel_rfl) Try.func20 rfl rfl rfl (by simp only [fr0, qal, qam]; exact rfl) rfl fun s0 hs0 => ?_
 refine zag ?_
 refine zam 1 ?_
 refine zac ?_
 refine zaj rfl (qz 2 rfl (ev1 rfl) rfl) ?_
 refine zab ?_
 refine zah ?_
 refine za rfl (qi rfl j5 (ev1 rfl) rfl rfl) ?_
 refine za rfl (zai [] [] [] rfl (ev1 rfl) (ec (ev1 rfl) en) rfl rfl (w4 x) rfl rfl rfl rfl rfl rfl) ?_
 refine za rfl (qB rfl (ev1 rfl) (ev1 rfl)) ?_
 refine za rfl (zai [] [] [] rfl (ev1 rfl) (ec (ev1 rfl) (ec (ev1 rfl) en)) rfl rfl (kg _ _ (by rw [hx]; rfl)) rfl rfl rfl rfl rfl rfl) ?_
 refine zab ?_
 refine zag ?_
 refine qk [([], []), ([2], []), ([], []), ([], []), ([], []), ([], []), ([0], []), ([], []), ([], [])] qW (by kernel_rfl) ?_
 refine zae rfl rfl (qa rfl gZ (ev1 rfl)) ?_
 refine zae rfl rfl (qb rfl kz (ev1 rfl) rfl rfl) ?_
 refine zae rfl rfl (zal (.inl rfl) (ev1 rfl)) ?_
 refine zae rfl rfl (qt rfl (ev1 rfl) (fun s v h => by cases h; exact ⟨_, rfl⟩)) ?_
 refine zae rfl rfl (qa rfl je (ev1 rfl)) ?_
 refine zae rfl rfl (qa rfl yA (ev1 rfl)) ?_
 refine zae rfl rfl (qb rfl kz (ev1 rfl) rfl rfl) ?_
 refine zae rfl rfl (gi rfl (ev1 rfl) (ev1 rfl)) ?_
 refine zae rfl rfl (zai [] [] [] rfl (ev1 rfl) (ec (ev1 rfl) (ec (ev1 rfl) en)) rfl rfl (kg _ _ (by simp; omega)) rfl rfl rfl rfl rfl rfl) ?_
 refine qu ?_
 refine zag ?_
 refine zag ?_
 refine qk [([], []), ([2], []), ([], []), ([], []), ([], []), ([], []), ([0], []), ([], [])] qW (by kernel_rfl) ?_
 refine zae rfl rfl (qa rfl gZ (ev1 rfl)) ?_
 refine zae rfl rfl (qb rfl kz (ev1 rfl) rfl rfl) ?_
 refine zae rfl rfl (zal (.inl rfl) (ev1 rfl)) ?_
 refine zae rfl rfl (qt rfl (ev1 rfl) (fun s v h => by cases h; exact ⟨_, rfl⟩)) ?_
 refine zae rfl rfl (qa rfl je (ev1 rfl)) ?_
 refine zae rfl rfl (qa rfl yA (ev1 rfl)) ?_
 refine zae rfl rfl (qb rfl kz (ev1 rfl) rfl rfl) ?_
 refine zae rfl rfl (kD rfl (ev1 rfl) (ev1 rfl)) ?_
 refine qu ?_
 refine qj rfl (by simp; omega) ?_
 refine qd ?_
 refine zag ?_
 refine yp 8 [([], []), ([2], []), ([], []), ([], []), ([], []), ([], []), ([0], []), ([], [])] qW (by kernel_rfl) rfl rfl ?_
 refine zae rfl rfl (qa rfl yP (ev1 rfl)) ?_
 refine zae rfl rfl (qb rfl tb3 (ev1 rfl) rfl rfl) ?_
 refine zae rfl rfl (zal (.inl rfl) (ev1 rfl)) ?_
 refine zae rfl rfl (qt rfl (ev1 rfl) (fun s v h => by cases h; exact ⟨_, rfl⟩)) ?_
 refine zae rfl rfl (qa rfl je (ev1 rfl)) ?_
 refine zae rfl rfl (qa rfl wZ (ev1 rfl)) ?_
 refine zae rfl rfl (qb rfl tb3 (ev1 rfl) rfl rfl) ?_
 refine zae rfl rfl (qB rfl (ev1 rfl) (ev1 rfl)) ?_
 refine qu ⟨_, _, _, rfl, qA [] [] [] rfl (ev1 rfl) (ec (ev1 rfl) (ec (ev1 rfl) en)) rfl rfl (j9 _ _ (by simpa using h3)) rfl rfl rfl rfl rfl rfl, ?_⟩
 refine K9 [0, 1] rfl rfl ?_ ⟨rfl, qy rfl rfl (fun _ => rfl), trivial⟩
 rfl
theorem U5 (p : PiM) (x : PcM) (hx : pcB x = true) (h2 : x.sn = p.sn) (h3 : x.mn = p.mn) (h4 : x.ix.toNat < p.ps.length) (h5 : emp p.ps[x.ix.toNat] = false) : DPan Try.prog 20 [.loc 0 0, .agg (pcD x)] [.mix 68 [.val (.int .u64 p.sn), .val (.int .i64 p.mn), .arr 1], .arx 23 1 (p.ps).length ((p.ps).flatMap fun b => [rwB b])] (.ifc 88 (.val (.agg #[.int .i64 5]))) [.mix 68 [.val (.int .u64 p.sn), .val (.int .i64 p.mn), .arr 1], .arx 23 1 (p.ps).length ((p.ps).flatMap fun b => [rwB b])] := by
 refine zan (N := 68) 2 (by kernel_rfl) Try.func20 rfl rfl rfl (by simp only [fr0, qal, qam]; exact rfl) rfl fun s0 hs0 => ?_
 refine zag ?_
 have hpx := pcB_iff.1 hx
 refine zam 1 ?_
 refine zac ?_
 refine zaj rfl (qz 2 rfl (ev1 rfl) rfl) ?_
 refine zab ?_
 refine zah ?_
 refine za rfl (qi rfl j5 (ev1 rfl) rfl rfl) ?_
 refine za rfl (zai [] [] [] rfl (ev1 rfl) (ec (ev1 rfl) en) rfl rfl (w4 x) rfl rfl rfl rfl rfl rfl) ?_
 refine za rfl (qB rfl (ev1 rfl) (ev1 rfl)) ?_
 refine za rfl (zai [] [] [] rfl (ev1 rfl) (ec (ev1 rfl) (ec (ev1 rfl) en)) rfl rfl (kg _ _ (by rw [hx]; rfl)) rfl rfl rfl rfl rfl rfl) ?_
 refine zab ?_
 refine zag ?_
 refine qk [([], []), ([2], []), ([], []), ([], []), ([], []), ([], []), ([0], []), ([], []), ([], [])] qW (by kernel_rfl) ?_
 refine zae rfl rfl (qa rfl gZ (ev1 rfl)) ?_
 refine zae rfl rfl (qb rfl kz (ev1 rfl) rfl rfl) ?_
 refine zae rfl rfl (zal (.inl rfl) (ev1 rfl)) ?_
 refine zae rfl rfl (qt rfl (ev1 rfl) (fun s v h => by cases h; exact ⟨_, rfl⟩)) ?_
 refine zae rfl rfl (qa rfl je (ev1 rfl)) ?_
 refine zae rfl rfl (qa rfl yA (ev1 rfl)) ?_
 refine zae rfl rfl (qb rfl kz (ev1 rfl) rfl rfl) ?_
 refine zae rfl rfl (gi rfl (ev1 rfl) (ev1 rfl)) ?_
 refine zae rfl rfl (zai [] [] [] rfl (ev1 rfl) (ec (ev1 rfl) (ec (ev1 rfl) en)) rfl rfl (kg _ _ (by simp; omega)) rfl rfl rfl rfl rfl rfl) ?_
 refine qu ?_
 refine zag ?_
 refine zag ?_
 refine qk [([], []), ([2], []), ([], []), ([], []), ([], []), ([], []), ([0], []), ([], [])] qW (by kernel_rfl) ?_
 refine zae rfl rfl (qa rfl gZ (ev1 rfl)) ?_
 refine zae rfl rfl (qb rfl kz (ev1 rfl) rfl rfl) ?_
 refine zae rfl rfl (zal (.inl rfl) (ev1 rfl)) ?_
 refine zae rfl rfl (qt rfl (ev1 rfl) (fun s v h => by cases h; exact ⟨_, rfl⟩)) ?_
 refine zae rfl rfl (qa rfl je (ev1 rfl)) ?_
 refine zae rfl rfl (qa rfl yA (ev1 rfl)) ?_
 refine zae rfl rfl (qb rfl kz (ev1 rfl) rfl rfl) ?_
 refine zae rfl rfl (kD rfl (ev1 rfl) (ev1 rfl)) ?_
 refine qu ?_
 refine qj rfl (by simp; omega) ?_
 refine qd ?_
 refine zag ?_
 refine qk [([], []), ([2], []), ([], []), ([], []), ([], []), ([], []), ([0], []), ([], []), ([], [])] qW (by kernel_rfl) ?_
 refine zae rfl rfl (qa rfl yP (ev1 rfl)) ?_
 refine zae rfl rfl (qb rfl tb3 (ev1 rfl) rfl rfl) ?_
 refine zae rfl rfl (zal (.inl rfl) (ev1 rfl)) ?_
 refine zae rfl rfl (qt rfl (ev1 rfl) (fun s v h => by cases h; exact ⟨_, rfl⟩)) ?_
 refine zae rfl rfl (qa rfl je (ev1 rfl)) ?_
 refine zae rfl rfl (qa rfl wZ (ev1 rfl)) ?_
 refine zae rfl rfl (qb rfl tb3 (ev1 rfl) rfl rfl) ?_
 refine zae rfl rfl (qB rfl (ev1 rfl) (ev1 rfl)) ?_
 refine zae rfl rfl (zai [] [] [] rfl (ev1 rfl) (ec (ev1 rfl) (ec (ev1 rfl) en)) rfl rfl (kg _ _ (by simpa using h3)) rfl rfl rfl rfl rfl rfl) ?_
 refine qu ?_
 refine zag ?_
 refine yp 11 [([], []), ([], []), ([], []), ([], []), ([0], []), ([], []), ([2], []), ([1], []), ([1], []), ([], []), ([], [])] qW (by kernel_rfl) rfl rfl ?_
 refine zae rfl rfl (zal (.inl rfl) (ev1 rfl)) ?_
 refine zae rfl rfl (qt rfl (ev1 rfl) (fun s v h => by cases h; exact ⟨_, rfl⟩)) ?_
 refine zae rfl rfl (qa rfl je (ev1 rfl)) ?_
 refine zae rfl rfl (qa rfl gI (ev1 rfl)) ?_
 refine zae rfl rfl (qb rfl xb (ev1 rfl) rfl rfl) ?_
 refine zae rfl rfl (qa rfl yB (ev1 rfl)) ?_
 refine zae rfl rfl (qb rfl tb3 (ev1 rfl) rfl rfl) ?_
 refine zae rfl rfl (uY (x.ix.toNat) rfl gu (ev1 rfl) (ev1 rfl) rfl (fun _ => by omega) (fun _ => by omega)) ?_
 refine zae rfl rfl (Ym rfl kS (ev1 rfl) rfl (U1 h4)) ?_
 refine zae rfl rfl (qJ rfl qK (ev1 rfl)) ?_
 refine zae rfl rfl (qB rfl (ev1 rfl) (ev1 rfl)) ?_
 refine qu ⟨_, _, _, rfl, qA [] [] [] rfl (ev1 rfl) (ec (ev1 rfl) (ec (ev1 rfl) en)) rfl rfl (j9 _ _ (h5)) rfl rfl rfl rfl rfl rfl, ?_⟩
 refine K9 [0, 1] rfl rfl ?_ ⟨rfl, qy rfl rfl (fun _ => rfl), trivial⟩
 rfl
theorem Hz (p : PiM) (x : PcM) (hx : pcB x = true) (h2 : x.sn = p.sn) (h3 : x.mn = p.mn) (h4 : x.ix.toNat < p.ps.length) (h5 : emp p.ps[x.ix.toNat] = true) : DFun Try.prog 20 [.loc 0 0, .agg (pcD x)] [.mix 68 [.val (.int .u64 p.sn), .val (.int .i64 p.mn), .arr 1], .arx 23 1 (p.ps).length ((p.ps).flatMap fun b => [rwB b])] (.tup []) [.mix 68 [.val (.int .u64 p.sn), .val (.int .i64 p.mn), .arr 1], .arx 23 1 p.ps.length ((p.ps.set x.ix.toNat x.b).flatMap fun b => [rwB b])] := by
 refine zan (N := 68) 2 (by kernel_rfl) Try.func20 rfl rfl rfl (by simp only [fr0, qal, qam]; exact rfl) rfl fun s0 hs0 => ?_
 refine zag ?_
 have hpx := pcB_iff.1 hx
 refine zam 1 ?_
 refine zac ?_
 refine zaj rfl (qz 2 rfl (ev1 rfl) rfl) ?_
 refine zab ?_
 refine zah ?_
 refine za rfl (qi rfl j5 (ev1 rfl) rfl rfl) ?_
 refine za rfl (zai [] [] [] rfl (ev1 rfl) (ec (ev1 rfl) en) rfl rfl (w4 x) rfl rfl rfl rfl rfl rfl) ?_
 refine za rfl (qB rfl (ev1 rfl) (ev1 rfl)) ?_
 refine za rfl (zai [] [] [] rfl (ev1 rfl) (ec (ev1 rfl) (ec (ev1 rfl) en)) rfl rfl (kg _ _ (by rw [hx]; rfl)) rfl rfl rfl rfl rfl rfl) ?_
 refine zab ?_
 refine zag ?_
 refine qk [([], []), ([2], []), ([], []), ([], []), ([], []), ([], []), ([0], []), ([], []), ([], [])] qW (by kernel_rfl) ?_
 refine zae rfl rfl (qa rfl gZ (ev1 rfl)) ?_
 refine zae rfl rfl (qb rfl kz (ev1 rfl) rfl rfl) ?_
 refine zae rfl rfl (zal (.inl rfl) (ev1 rfl)) ?_
 refine zae rfl rfl (qt rfl (ev1 rfl) (fun s v h => by cases h; exact ⟨_, rfl⟩)) ?_
 refine zae rfl rfl (qa rfl je (ev1 rfl)) ?_
 refine zae rfl rfl (qa rfl yA (ev1 rfl)) ?_
 refine zae rfl rfl (qb rfl kz (ev1 rfl) rfl rfl) ?_
 refine zae rfl rfl (gi rfl (ev1 rfl) (ev1 rfl)) ?_
 refine zae rfl rfl (zai [] [] [] rfl (ev1 rfl) (ec (ev1 rfl) (ec (ev1 rfl) en)) rfl rfl (kg _ _ (by simp; omega)) rfl rfl rfl rfl rfl rfl) ?_
 refine qu ?_
 refine zag ?_
 refine zag ?_
 refine qk [([], []), ([2], []), ([], []), ([], []), ([], []), ([], []), ([0], []), ([], [])] qW (by kernel_rfl) ?_
 refine zae rfl rfl (qa rfl gZ (ev1 rfl)) ?_
 refine zae rfl rfl (qb rfl kz (ev1 rfl) rfl rfl) ?_
 refine zae rfl rfl (zal (.inl rfl) (ev1 rfl)) ?_
 refine zae rfl rfl (qt rfl (ev1 rfl) (fun s v h => by cases h; exact ⟨_, rfl⟩)) ?_
 refine zae rfl rfl (qa rfl je (ev1 rfl)) ?_
 refine zae rfl rfl (qa rfl yA (ev1 rfl)) ?_
 refine zae rfl rfl (qb rfl kz (ev1 rfl) rfl rfl) ?_
 refine zae rfl rfl (kD rfl (ev1 rfl) (ev1 rfl)) ?_
 refine qu ?_
 refine qj rfl (by simp; omega) ?_
 refine qd ?_
 refine zag ?_
 refine qk [([], []), ([2], []), ([], []), ([], []), ([], []), ([], []), ([0], []), ([], []), ([], [])] qW (by kernel_rfl) ?_
 refine zae rfl rfl (qa rfl yP (ev1 rfl)) ?_
 refine zae rfl rfl (qb rfl tb3 (ev1 rfl) rfl rfl) ?_
 refine zae rfl rfl (zal (.inl rfl) (ev1 rfl)) ?_
 refine zae rfl rfl (qt rfl (ev1 rfl) (fun s v h => by cases h; exact ⟨_, rfl⟩)) ?_
 refine zae rfl rfl (qa rfl je (ev1 rfl)) ?_
 refine zae rfl rfl (qa rfl wZ (ev1 rfl)) ?_
 refine zae rfl rfl (qb rfl tb3 (ev1 rfl) rfl rfl) ?_
 refine zae rfl rfl (qB rfl (ev1 rfl) (ev1 rfl)) ?_
 refine zae rfl rfl (zai [] [] [] rfl (ev1 rfl) (ec (ev1 rfl) (ec (ev1 rfl) en)) rfl rfl (kg _ _ (by simpa using h3)) rfl rfl rfl rfl rfl rfl) ?_
 refine qu ?_
 refine zag ?_
 refine qk [([], []), ([], []), ([], []), ([], []), ([0], []), ([], []), ([2], []), ([1], []), ([1], []), ([], []), ([], []), ([], [])] qW (by kernel_rfl) ?_
 refine zae rfl rfl (zal (.inl rfl) (ev1 rfl)) ?_
 refine zae rfl rfl (qt rfl (ev1 rfl) (fun s v h => by cases h; exact ⟨_, rfl⟩)) ?_
 refine zae rfl rfl (qa rfl je (ev1 rfl)) ?_
 refine zae rfl rfl (qa rfl gI (ev1 rfl)) ?_
 refine zae rfl rfl (qb rfl xb (ev1 rfl) rfl rfl) ?_
 refine zae rfl rfl (qa rfl yB (ev1 rfl)) ?_
 refine zae rfl rfl (qb rfl tb3 (ev1 rfl) rfl rfl) ?_
 refine zae rfl rfl (uY (x.ix.toNat) rfl gu (ev1 rfl) (ev1 rfl) rfl (fun _ => by omega) (fun _ => by omega)) ?_
 refine zae rfl rfl (Ym rfl kS (ev1 rfl) rfl (U1 h4)) ?_
 refine zae rfl rfl (qJ rfl qK (ev1 rfl)) ?_
 refine zae rfl rfl (qB rfl (ev1 rfl) (ev1 rfl)) ?_
 refine zae rfl rfl (zai [] [] [] rfl (ev1 rfl) (ec (ev1 rfl) (ec (ev1 rfl) en)) rfl rfl (kg _ _ (h5)) rfl rfl rfl rfl rfl rfl) ?_
 refine qu ?_
 refine qk [([], []), ([], []), ([], []), ([], []), ([0], []), ([], []), ([2], []), ([], []), ([2], []), ([], []), ([1], []), ([1], [1])] qW (by kernel_rfl) ?_
 refine zae rfl rfl (zal (.inl rfl) (ev1 rfl)) ?_
 refine zae rfl rfl (qt rfl (ev1 rfl) (fun s v h => by cases h; exact ⟨_, rfl⟩)) ?_
 refine zae rfl rfl (qa rfl je (ev1 rfl)) ?_
 refine zae rfl rfl (qa rfl gI (ev1 rfl)) ?_
 refine zae rfl rfl (qb rfl xb (ev1 rfl) rfl rfl) ?_
 refine zae rfl rfl (qa rfl yB (ev1 rfl)) ?_
 refine zae rfl rfl (qb rfl tb3 (ev1 rfl) rfl rfl) ?_
 refine zae rfl rfl (qa rfl YN (ev1 rfl)) ?_
 refine zae rfl rfl (qb rfl kS (ev1 rfl) rfl rfl) ?_
 refine zae rfl rfl (zai [] [] [] rfl (ev1 rfl) (ec (ev1 rfl) en) rfl rfl (y0 x.b (by omega)) rfl rfl rfl rfl rfl rfl) ?_
 refine zae rfl rfl (uY (x.ix.toNat) rfl gu (ev1 rfl) (ev1 rfl) rfl (fun _ => by omega) (fun _ => by omega)) ?_
 refine jY rfl rfl (Jh (j := x.ix.toNat) (g := rwB) (q := x.b) rfl kS (ev1 rfl) (ev1 rfl) rfl (by omega) (fun s v h => by cases h <;> exact ⟨rfl, rfl⟩)) rfl (by simp only [upd, zad, zaf]; exact rfl) ?_
 refine qu ?_
 refine kc [0, 1] (qD rfl) rfl rfl ?_ ⟨?_, ?_, trivial⟩
 rfl
 rfl
 exact qy rfl rfl (fun _ => rfl)
theorem HA (p : PiM) (x : PcM) (hx : pcB x = true) (h2 : p.sn < x.sn) : DFun Try.prog 20 [.loc 0 0, .agg (pcD x)] [.mix 68 [.val (.int .u64 p.sn), .val (.int .i64 p.mn), .arr 1], .arx 23 1 (p.ps).length ((p.ps).flatMap fun b => [rwB b])] (.tup []) [.mix 68 [.val (.int .u64 x.sn), .val (.int .i64 x.mn), .arr 2], .arx 23 1 (p.ps).length ((p.ps).flatMap fun b => [rwB b]), .arx 23 1 x.mn.toNat (((qax x.mn.toNat ([] : List Int)).set x.ix.toNat x.b).flatMap fun b => [rwB b])] := by
 refine zan (N := 68) 2 (by kernel_rfl) Try.func20 rfl rfl rfl (by simp only [fr0, qal, qam]; exact rfl) rfl fun s0 hs0 => ?_
 refine zag ?_
 have hpx := pcB_iff.1 hx
 refine zam 1 ?_
 refine zac ?_
 refine zaj rfl (qz 2 rfl (ev1 rfl) rfl) ?_
 refine zab ?_
 refine zah ?_
 refine za rfl (qi rfl j5 (ev1 rfl) rfl rfl) ?_
 refine za rfl (zai [] [] [] rfl (ev1 rfl) (ec (ev1 rfl) en) rfl rfl (w4 x) rfl rfl rfl rfl rfl rfl) ?_
 refine za rfl (qB rfl (ev1 rfl) (ev1 rfl)) ?_
 refine za rfl (zai [] [] [] rfl (ev1 rfl) (ec (ev1 rfl) (ec (ev1 rfl) en)) rfl rfl (kg _ _ (by rw [hx]; rfl)) rfl rfl rfl rfl rfl rfl) ?_
 refine zab ?_
 refine zag ?_
 refine qk [([], []), ([2], []), ([], []), ([], []), ([], []), ([], []), ([0], []), ([], []), ([], [])] qW (by kernel_rfl) ?_
 refine zae rfl rfl (qa rfl gZ (ev1 rfl)) ?_
 refine zae rfl rfl (qb rfl kz (ev1 rfl) rfl rfl) ?_
 refine zae rfl rfl (zal (.inl rfl) (ev1 rfl)) ?_
 refine zae rfl rfl (qt rfl (ev1 rfl) (fun s v h => by cases h; exact ⟨_, rfl⟩)) ?_
 refine zae rfl rfl (qa rfl je (ev1 rfl)) ?_
 refine zae rfl rfl (qa rfl yA (ev1 rfl)) ?_
 refine zae rfl rfl (qb rfl kz (ev1 rfl) rfl rfl) ?_
 refine zae rfl rfl (gi rfl (ev1 rfl) (ev1 rfl)) ?_
 refine zae rfl rfl (zai [] [] [] rfl (ev1 rfl) (ec (ev1 rfl) (ec (ev1 rfl) en)) rfl rfl (kg _ _ (by simp; omega)) rfl rfl rfl rfl rfl rfl) ?_
 refine qu ?_
 refine zag ?_
 refine zag ?_
 refine qk [([], []), ([2], []), ([], []), ([], []), ([], []), ([], []), ([0], []), ([], [])] qW (by kernel_rfl) ?_
 refine zae rfl rfl (qa rfl gZ (ev1 rfl)) ?_
 refine zae rfl rfl (qb rfl kz (ev1 rfl) rfl rfl) ?_
 refine zae rfl rfl (zal (.inl rfl) (ev1 rfl)) ?_
 refine zae rfl rfl (qt rfl (ev1 rfl) (fun s v h => by cases h; exact ⟨_, rfl⟩)) ?_
 refine zae rfl rfl (qa rfl je (ev1 rfl)) ?_
 refine zae rfl rfl (qa rfl yA (ev1 rfl)) ?_
 refine zae rfl rfl (qb rfl kz (ev1 rfl) rfl rfl) ?_
 refine zae rfl rfl (kD rfl (ev1 rfl) (ev1 rfl)) ?_
 refine qu ?_
 refine qR rfl (by simp; omega) ?_
 refine zam 1 ?_
 refine qk [([], []), ([], []), ([2], []), ([], []), ([2], []), ([], []), ([2], []), ([3], [3]), ([], []), ([], []), ([], []), ([0], [0])] qW (by kernel_rfl) ?_
 refine zae rfl rfl (zal (.inl rfl) (ev1 rfl)) ?_
 refine zae rfl rfl (qa rfl gZ (ev1 rfl)) ?_
 refine zae rfl rfl (qb rfl kz (ev1 rfl) rfl rfl) ?_
 refine zae rfl rfl (qa rfl yP (ev1 rfl)) ?_
 refine zae rfl rfl (qb rfl tb3 (ev1 rfl) rfl rfl) ?_
 refine zae rfl rfl (qa rfl yP (ev1 rfl)) ?_
 refine zae rfl rfl (qb rfl tb3 (ev1 rfl) rfl rfl) ?_
 refine yw rfl rfl (Yr 3 (x.mn.toNat) (.slice none 0 0) rfl gu Uf (rfl) (by decide) (ev1 rfl) (ev1 rfl) (fun _ => by omega) (fun _ => by omega) rfl (fun _ => by omega)) rfl (by simp only [upd, zad, zaf]; exact rfl) ?_
 refine zae rfl rfl (jW (ps := [(0, .tmp 27), (1, .tmp 29), (2, .tmp 32)]) rfl fl32 wu (ec (ev1 rfl) (ec (ev1 rfl) (ec (ev1 rfl) en))) rfl rfl rfl) ?_
 refine zae rfl rfl (qt rfl (ev1 rfl) (fun s v h => by cases h; exact ⟨_, rfl⟩)) ?_
 refine zae rfl rfl (qa rfl je (ev1 rfl)) ?_
 refine jY rfl rfl (xL rfl kJ (ev1 rfl) (ev1 rfl) rfl rfl rfl rfl) rfl (by simp only [upd, zad, zaf]; exact rfl) ?_
 refine qu ?_
 refine zag ?_
 refine kQ 3 GU rfl rfl (by simp only [qas, qaw, zad, zaf, List.map]; exact rfl) ?_
 refine qk [([], []), ([2], []), ([], []), ([], []), ([], []), ([], []), ([0], []), ([], []), ([], [])] qW (by kernel_rfl) ?_
 refine zae rfl rfl (qa rfl yP (ev1 rfl)) ?_
 refine zae rfl rfl (qb rfl tb3 (ev1 rfl) rfl rfl) ?_
 refine zae rfl rfl (zal (.inl rfl) (ev1 rfl)) ?_
 refine zae rfl rfl (qt rfl (ev1 rfl) (fun s v h => by cases h; exact ⟨_, rfl⟩)) ?_
 refine zae rfl rfl (qa rfl je (ev1 rfl)) ?_
 refine zae rfl rfl (qa rfl wZ (ev1 rfl)) ?_
 refine zae rfl rfl (qb rfl tb3 (ev1 rfl) rfl rfl) ?_
 refine zae rfl rfl (qB rfl (ev1 rfl) (ev1 rfl)) ?_
 refine zae rfl rfl (zai [] [] [] rfl (ev1 rfl) (ec (ev1 rfl) (ec (ev1 rfl) en)) rfl rfl (kg _ _ (by simp)) rfl rfl rfl rfl rfl rfl) ?_
 refine qu ?_
 refine zag ?_
 refine qk [([], []), ([], []), ([], []), ([], []), ([0], []), ([], []), ([2], []), ([3], []), ([3], []), ([], []), ([], []), ([], [])] qW (by kernel_rfl) ?_
 refine zae rfl rfl (zal (.inl rfl) (ev1 rfl)) ?_
 refine zae rfl rfl (qt rfl (ev1 rfl) (fun s v h => by cases h; exact ⟨_, rfl⟩)) ?_
 refine zae rfl rfl (qa rfl je (ev1 rfl)) ?_
 refine zae rfl rfl (qa rfl gI (ev1 rfl)) ?_
 refine zae rfl rfl (qb rfl xb (ev1 rfl) rfl rfl) ?_
 refine zae rfl rfl (qa rfl yB (ev1 rfl)) ?_
 refine zae rfl rfl (qb rfl tb3 (ev1 rfl) rfl rfl) ?_
 refine zae rfl rfl (uY (x.ix.toNat) rfl gu (ev1 rfl) (ev1 rfl) rfl (fun _ => by omega) (fun _ => by rw [qaG]; omega)) ?_
 refine zae rfl rfl (Ym rfl kS (ev1 rfl) rfl (U1 (by rw [qaG]; omega))) ?_
 refine zae rfl rfl (qJ rfl qK (ev1 rfl)) ?_
 refine zae rfl rfl (qB rfl (ev1 rfl) (ev1 rfl)) ?_
 refine zae rfl rfl (zai [] [] [] rfl (ev1 rfl) (ec (ev1 rfl) (ec (ev1 rfl) en)) rfl rfl (kg _ _ (by rw [List.getElem_replicate]; rfl)) rfl rfl rfl rfl rfl rfl) ?_
 refine qu ?_
 refine qk [([], []), ([], []), ([], []), ([], []), ([0], []), ([], []), ([2], []), ([], []), ([2], []), ([], []), ([3], []), ([3], [3])] qW (by kernel_rfl) ?_
 refine zae rfl rfl (zal (.inl rfl) (ev1 rfl)) ?_
 refine zae rfl rfl (qt rfl (ev1 rfl) (fun s v h => by cases h; exact ⟨_, rfl⟩)) ?_
 refine zae rfl rfl (qa rfl je (ev1 rfl)) ?_
 refine zae rfl rfl (qa rfl gI (ev1 rfl)) ?_
 refine zae rfl rfl (qb rfl xb (ev1 rfl) rfl rfl) ?_
 refine zae rfl rfl (qa rfl yB (ev1 rfl)) ?_
 refine zae rfl rfl (qb rfl tb3 (ev1 rfl) rfl rfl) ?_
 refine zae rfl rfl (qa rfl YN (ev1 rfl)) ?_
 refine zae rfl rfl (qb rfl kS (ev1 rfl) rfl rfl) ?_
 refine zae rfl rfl (zai [] [] [] rfl (ev1 rfl) (ec (ev1 rfl) en) rfl rfl (y0 x.b (by omega)) rfl rfl rfl rfl rfl rfl) ?_
 refine zae rfl rfl (uY (x.ix.toNat) rfl gu (ev1 rfl) (ev1 rfl) rfl (fun _ => by omega) (fun _ => by rw [qaG]; omega)) ?_
 refine jY rfl rfl (Jh (j := x.ix.toNat) (g := rwB) (q := x.b) rfl kS (ev1 rfl) (ev1 rfl) rfl (by rw [qaG]; omega) (fun s v h => by cases h <;> exact ⟨rfl, rfl⟩)) rfl (by simp only [upd, zad, zaf]; exact rfl) ?_
 refine qu ?_
 refine kc [0, 1, 3] (qD rfl) rfl rfl ?_ ⟨?_, ?_, ?_, trivial⟩
 rfl
 rfl
 exact qy rfl rfl (fun _ => rfl)
 exact qy (qaG ..) rfl (fun _ => rfl)
end Go.Proofs.Ytofklkbfkoliiaa
namespace Go.Proofs.Ytofklkbfkoliiaa
set_option linter.unusedVariables false
set_option linter.unusedSimpArgs false
open Go.RowKit
attribute [local irreducible] tkN jP ky
theorem KU (e : Int) : DDef Try.prog 45 [.loc 0 0] [.flat 27 [.int .i64 e]] none none [.flat 27 [.int .i64 0]] := by
 refine jj (dr := .tup []) (t := 1) (N := 3) 1 (by kernel_rfl) Try.func45 rfl rfl rfl (by simp only [fr0, qal, qam]; exact rfl) rfl rfl rfl rfl rfl fun s0 hs0 => ?_
 refine za rfl (zai [] [] [] rfl (ev1 rfl) (ec (ev1 rfl) en) rfl rfl (y1) rfl rfl rfl rfl rfl rfl) ?_
 refine qc rfl (qG rfl qU (ev1 rfl) (ev1 rfl) rfl) ?_
 refine zab ?_
 refine kc [0] (qD rfl) rfl rfl ?_ ⟨rfl, trivial⟩
 rfl
theorem yH (e n : Int) : DDef Try.prog 45 [.loc 0 0] [.flat 27 [.int .i64 e]] (some (.ifc 88 (.val (.agg #[.int .i64 n])))) none [.flat 27 [.int .i64 n]] := by
 refine jj (dr := .tup []) (t := 1) (N := 3) 1 (by kernel_rfl) Try.func45 rfl rfl rfl (by simp only [fr0, qal, qam]; exact rfl) rfl rfl rfl rfl rfl fun s0 hs0 => ?_
 refine za rfl (zai [] [] [] rfl (ev1 rfl) (ec (ev1 rfl) en) rfl rfl (uL n) rfl rfl rfl rfl rfl rfl) ?_
 refine qc rfl (qG rfl qU (ev1 rfl) (ev1 rfl) rfl) ?_
 refine zab ?_
 refine kc [0] (qD rfl) rfl rfl ?_ ⟨rfl, trivial⟩
 rfl
theorem zW (e : Int) : DDef Try.prog 18 [.loc 0 0] [.flat 27 [.int .i64 e]] none none [.flat 27 [.int .i64 0]] := by
 refine jj (dr := .tup []) (t := 1) (N := 3) 1 (by kernel_rfl) Try.func18 rfl rfl rfl (by simp only [fr0, qal, qam]; exact rfl) rfl rfl rfl rfl rfl fun s0 hs0 => ?_
 refine za rfl (zai [] [] [] rfl (ev1 rfl) (ec (ev1 rfl) en) rfl rfl (y1) rfl rfl rfl rfl rfl rfl) ?_
 refine qc rfl (qG rfl qU (ev1 rfl) (ev1 rfl) rfl) ?_
 refine zab ?_
 refine kc [0] (qD rfl) rfl rfl ?_ ⟨rfl, trivial⟩
 rfl
theorem yj (e n : Int) : DDef Try.prog 18 [.loc 0 0] [.flat 27 [.int .i64 e]] (some (.ifc 88 (.val (.agg #[.int .i64 n])))) none [.flat 27 [.int .i64 n]] := by
 refine jj (dr := .tup []) (t := 1) (N := 3) 1 (by kernel_rfl) Try.func18 rfl rfl rfl (by simp only [fr0, qal, qam]; exact rfl) rfl rfl rfl rfl rfl fun s0 hs0 => ?_
 refine za rfl (zai [] [] [] rfl (ev1 rfl) (ec (ev1 rfl) en) rfl rfl (uL n) rfl rfl rfl rfl rfl rfl) ?_
 refine qc rfl (qG rfl qU (ev1 rfl) (ev1 rfl) rfl) ?_
 refine zab ?_
 refine kc [0] (qD rfl) rfl rfl ?_ ⟨rfl, trivial⟩
 rfl
theorem GV (e : Int) : DDef Try.prog 25 [.loc 0 0] [.flat 27 [.int .i64 e]] none none [.flat 27 [.int .i64 0]] := by
 refine jj (dr := .tup []) (t := 1) (N := 3) 1 (by kernel_rfl) Try.func25 rfl rfl rfl (by simp only [fr0, qal, qam]; exact rfl) rfl rfl rfl rfl rfl fun s0 hs0 => ?_
 refine za rfl (zai [] [] [] rfl (ev1 rfl) (ec (ev1 rfl) en) rfl rfl (y1) rfl rfl rfl rfl rfl rfl) ?_
 refine qc rfl (qG rfl qU (ev1 rfl) (ev1 rfl) rfl) ?_
 refine zab ?_
 refine kc [0] (qD rfl) rfl rfl ?_ ⟨rfl, trivial⟩
 rfl
theorem YO (e : Int) : DDef Try.prog 15 [.loc 0 0] [.flat 27 [.int .i64 e]] none none [.flat 27 [.int .i64 0]] := by
 refine jj (dr := .tup []) (t := 1) (N := 3) 1 (by kernel_rfl) Try.func15 rfl rfl rfl (by simp only [fr0, qal, qam]; exact rfl) rfl rfl rfl rfl rfl fun s0 hs0 => ?_
 refine za rfl (zai [] [] [] rfl (ev1 rfl) (ec (ev1 rfl) en) rfl rfl (y1) rfl rfl rfl rfl rfl rfl) ?_
 refine qc rfl (qG rfl qU (ev1 rfl) (ev1 rfl) rfl) ?_
 refine zab ?_
 refine kc [0] (qD rfl) rfl rfl ?_ ⟨rfl, trivial⟩
 rfl
theorem uN (e n : Int) : DDef Try.prog 15 [.loc 0 0] [.flat 27 [.int .i64 e]] (some (.ifc 88 (.val (.agg #[.int .i64 n])))) none [.flat 27 [.int .i64 n]] := by
 refine jj (dr := .tup []) (t := 1) (N := 3) 1 (by kernel_rfl) Try.func15 rfl rfl rfl (by simp only [fr0, qal, qam]; exact rfl) rfl rfl rfl rfl rfl fun s0 hs0 => ?_
 refine za rfl (zai [] [] [] rfl (ev1 rfl) (ec (ev1 rfl) en) rfl rfl (uL n) rfl rfl rfl rfl rfl rfl) ?_
 refine qc rfl (qG rfl qU (ev1 rfl) (ev1 rfl) rfl) ?_
 refine zab ?_
 refine kc [0] (qD rfl) rfl rfl ?_ ⟨rfl, trivial⟩
 rfl
theorem JA (e : Int) : DDef Try.prog 27 [.loc 0 0] [.flat 27 [.int .i64 e]] none none [.flat 27 [.int .i64 0]] := by
 refine jj (dr := .tup []) (t := 1) (N := 3) 1 (by kernel_rfl) Try.func27 rfl rfl rfl (by simp only [fr0, qal, qam]; exact rfl) rfl rfl rfl rfl rfl fun s0 hs0 => ?_
 refine za rfl (zai [] [] [] rfl (ev1 rfl) (ec (ev1 rfl) en) rfl rfl (y1) rfl rfl rfl rfl rfl rfl) ?_
 refine qc rfl (qG rfl qU (ev1 rfl) (ev1 rfl) rfl) ?_
 refine zab ?_
 refine kc [0] (qD rfl) rfl rfl ?_ ⟨rfl, trivial⟩
 rfl
theorem A1 (p : PiM) (x : PcM) (hx : pcB x = false) : DFun Try.prog 26 [.loc 0 0, .agg (pcD x)] [.mix 68 [.val (.int .u64 p.sn), .val (.int .i64 p.mn), .arr 1], .arx 23 1 (p.ps).length ((p.ps).flatMap fun b => [rwB b])] (.val (.int .i64 311)) [.mix 68 [.val (.int .u64 p.sn), .val (.int .i64 p.mn), .arr 1], .arx 23 1 (p.ps).length ((p.ps).flatMap fun b => [rwB b])] := by
 refine qn (N := 9) 2 (by kernel_rfl) Try.func26 rfl rfl rfl (by simp only [fr0, qal, qam]; exact rfl) rfl fun s0 hs0 => ?_
 refine qF rfl hs0 ?_
 refine zam 2 ?_
 refine zac ?_
 refine zaj rfl (qz 2 rfl (ev1 rfl) rfl) ?_
 refine zaj rfl (zao 3 rfl j4 rfl) ?_
 refine zab ?_
 refine qr (l0 := [_]) rfl rfl rfl rfl rfl hs0 ?_
 refine za rfl (qX rfl en (ec (ev1 rfl) en)) ?_
 refine zab ⟨_, _, _, 4, ev1 rfl, qaF hs0 (by decide), rfl, ?_⟩
 have hs1 : s0.M.length ≤ 4 := qaF hs0 (by decide)
 refine qE rfl hs0 ?_
 refine zah ?_
 refine zaa 1 rfl ?_
 refine za rfl (qi rfl j5 (ev1 rfl) rfl rfl) ?_
 refine ke rfl (qA [0, 1] [] [] rfl (ev1 rfl) (ec (ev1 rfl) (ec (ev1 rfl) en)) rfl (by exact jx _ _ ⟨rfl, (by first | exact rfl | exact arx_fits rfl rfl (vwL_flat (fun _ => rfl) _) | exact kA rfl rfl (qp (fun _ => rfl) _) | exact qy rfl rfl (fun _ => rfl) | exact kB rfl rfl (fun _ => rfl)), trivial⟩) (U2 p x hx) rfl rfl rfl (by exact (wrc rfl (wrc (by first | exact rfl | exact kK (fun _ => rfl) | exact ko (qp (fun _ => rfl) _) | exact kp (fun _ => rfl) | exact kr (fun _ => rfl)) rfl))) rfl rfl) rfl ?_
 refine jO (qP [3] [] rfl rfl rfl (yH _ _) rfl rfl rfl rfl rfl) ?_
 refine kc [0, 1] (rs1 rfl (jB qU rfl rfl rfl)) rfl rfl ?_ ⟨rfl, qy rfl rfl (fun _ => rfl), trivial⟩
 rfl
theorem A2 (p : PiM) (x : PcM) (hx : pcB x = true) (h2 : x.sn < p.sn) : DFun Try.prog 26 [.loc 0 0, .agg (pcD x)] [.mix 68 [.val (.int .u64 p.sn), .val (.int .i64 p.mn), .arr 1], .arx 23 1 (p.ps).length ((p.ps).flatMap fun b => [rwB b])] (.val (.int .i64 241)) [.mix 68 [.val (.int .u64 p.sn), .val (.int .i64 p.mn), .arr 1], .arx 23 1 (p.ps).length ((p.ps).flatMap fun b => [rwB b])] := by
 refine qn (N := 9) 2 (by kernel_rfl) Try.func26 rfl rfl rfl (by simp only [fr0, qal, qam]; exact rfl) rfl fun s0 hs0 => ?_
 refine qF rfl hs0 ?_
 refine zam 2 ?_
 refine zac ?_
 refine zaj rfl (qz 2 rfl (ev1 rfl) rfl) ?_
 refine zaj rfl (zao 3 rfl j4 rfl) ?_
 refine zab ?_
 refine qr (l0 := [_]) rfl rfl rfl rfl rfl hs0 ?_
 refine za rfl (qX rfl en (ec (ev1 rfl) en)) ?_
 refine zab ⟨_, _, _, 4, ev1 rfl, qaF hs0 (by decide), rfl, ?_⟩
 have hs1 : s0.M.length ≤ 4 := qaF hs0 (by decide)
 refine qE rfl hs0 ?_
 refine zah ?_
 refine zaa 1 rfl ?_
 refine za rfl (qi rfl j5 (ev1 rfl) rfl rfl) ?_
 refine ke rfl (qA [0, 1] [] [] rfl (ev1 rfl) (ec (ev1 rfl) (ec (ev1 rfl) en)) rfl (by exact jx _ _ ⟨rfl, (by first | exact rfl | exact arx_fits rfl rfl (vwL_flat (fun _ => rfl) _) | exact kA rfl rfl (qp (fun _ => rfl) _) | exact qy rfl rfl (fun _ => rfl) | exact kB rfl rfl (fun _ => rfl)), trivial⟩) (U3 p x hx h2) rfl rfl rfl (by exact (wrc rfl (wrc (by first | exact rfl | exact kK (fun _ => rfl) | exact ko (qp (fun _ => rfl) _) | exact kp (fun _ => rfl) | exact kr (fun _ => rfl)) rfl))) rfl rfl) rfl ?_
 refine jO (qP [3] [] rfl rfl rfl (yH _ _) rfl rfl rfl rfl rfl) ?_
 refine kc [0, 1] (rs1 rfl (jB qU rfl rfl rfl)) rfl rfl ?_ ⟨rfl, qy rfl rfl (fun _ => rfl), trivial⟩
 rfl
theorem A3 (p : PiM) (x : PcM) (hx : pcB x = true) (h2 : x.sn = p.sn) (h3 : x.mn ≠ p.mn) : DFun Try.prog 26 [.loc 0 0, .agg (pcD x)] [.mix 68 [.val (.int .u64 p.sn), .val (.int .i64 p.mn), .arr 1], .arx 23 1 (p.ps).length ((p.ps).flatMap fun b => [rwB b])] (.val (.int .i64 311)) [.mix 68 [.val (.int .u64 p.sn), .val (.int .i64 p.mn), .arr 1], .arx 23 1 (p.ps).length ((p.ps).flatMap fun b => [rwB b])] := by
 refine qn (N := 9) 2 (by kernel_rfl) Try.func26 rfl rfl rfl (by simp only [fr0, qal, qam]; exact rfl) rfl fun s0 hs0 => ?_
 refine qF rfl hs0 ?_
 refine zam 2 ?_
 refine zac ?_
 refine zaj rfl (qz 2 rfl (ev1 rfl) rfl) ?_
 refine zaj rfl (zao 3 rfl j4 rfl) ?_
 refine zab ?_
 refine qr (l0 := [_]) rfl rfl rfl rfl rfl hs0 ?_
 refine za rfl (qX rfl en (ec (ev1 rfl) en)) ?_
 refine zab ⟨_, _, _, 4, ev1 rfl, qaF hs0 (by decide), rfl, ?_⟩
 have hs1 : s0.M.length ≤ 4 := qaF hs0 (by decide)
 refine qE rfl hs0 ?_
 refine zah ?_
 refine zaa 1 rfl ?_
 refine za rfl (qi rfl j5 (ev1 rfl) rfl rfl) ?_
 refine ke rfl (qA [0, 1] [] [] rfl (ev1 rfl) (ec (ev1 rfl) (ec (ev1 rfl) en)) rfl (by exact jx _ _ ⟨rfl, (by first | exact rfl | exact arx_fits rfl rfl (vwL_flat (fun _ => rfl) _) | exact kA rfl rfl (qp (fun _ => rfl) _) | exact qy rfl rfl (fun _ => rfl) | exact kB rfl rfl (fun _ => rfl)), trivial⟩) (U4 p x hx h2 h3) rfl rfl rfl (by exact (wrc rfl (wrc (by first | exact rfl | exact kK (fun _ => rfl) | exact ko (qp (fun _ => rfl) _) | exact kp (fun _ => rfl) | exact kr (fun _ => rfl)) rfl))) rfl rfl) rfl ?_
 refine jO (qP [3] [] rfl rfl rfl (yH _ _) rfl rfl rfl rfl rfl) ?_
 refine kc [0, 1] (rs1 rfl (jB qU rfl rfl rfl)) rfl rfl ?_ ⟨rfl, qy rfl rfl (fun _ => rfl), trivial⟩
 rfl
theorem A4 (p : PiM) (x : PcM) (hx : pcB x = true) (h2 : x.sn = p.sn) (h3 : x.mn = p.mn) (h4 : x.ix.toNat < p.ps.length) (h5 : emp p.ps[x.ix.toNat] = false) : DFun Try.prog 26 [.loc 0 0, .agg (pcD x)] [.mix 68 [.val (.int .u64 p.sn), .val (.int .i64 p.mn), .arr 1], .arx 23 1 (p.ps).length ((p.ps).flatMap fun b => [rwB b])] (.val (.int .i64 5)) [.mix 68 [.val (.int .u64 p.sn), .val (.int .i64 p.mn), .arr 1], .arx 23 1 (p.ps).length ((p.ps).flatMap fun b => [rwB b])] := by
 refine qn (N := 9) 2 (by kernel_rfl) Try.func26 rfl rfl rfl (by simp only [fr0, qal, qam]; exact rfl) rfl fun s0 hs0 => ?_
 refine qF rfl hs0 ?_
 refine zam 2 ?_
 refine zac ?_
 refine zaj rfl (qz 2 rfl (ev1 rfl) rfl) ?_
 refine zaj rfl (zao 3 rfl j4 rfl) ?_
 refine zab ?_
 refine qr (l0 := [_]) rfl rfl rfl rfl rfl hs0 ?_
 refine za rfl (qX rfl en (ec (ev1 rfl) en)) ?_
 refine zab ⟨_, _, _, 4, ev1 rfl, qaF hs0 (by decide), rfl, ?_⟩
 have hs1 : s0.M.length ≤ 4 := qaF hs0 (by decide)
 refine qE rfl hs0 ?_
 refine zah ?_
 refine zaa 1 rfl ?_
 refine za rfl (qi rfl j5 (ev1 rfl) rfl rfl) ?_
 refine ke rfl (qA [0, 1] [] [] rfl (ev1 rfl) (ec (ev1 rfl) (ec (ev1 rfl) en)) rfl (by exact jx _ _ ⟨rfl, (by first | exact rfl | exact arx_fits rfl rfl (vwL_flat (fun _ => rfl) _) | exact kA rfl rfl (qp (fun _ => rfl) _) | exact qy rfl rfl (fun _ => rfl) | exact kB rfl rfl (fun _ => rfl)), trivial⟩) (U5 p x hx h2 h3 h4 h5) rfl rfl rfl (by exact (wrc rfl (wrc (by first | exact rfl | exact kK (fun _ => rfl) | exact ko (qp (fun _ => rfl) _) | exact kp (fun _ => rfl) | exact kr (fun _ => rfl)) rfl))) rfl rfl) rfl ?_
 refine jO (qP [3] [] rfl rfl rfl (yH _ _) rfl rfl rfl rfl rfl) ?_
 refine kc [0, 1] (rs1 rfl (jB qU rfl rfl rfl)) rfl rfl ?_ ⟨rfl, qy rfl rfl (fun _ => rfl), trivial⟩
 rfl
theorem try_s (p : PiM) (x : PcM) (hx : pcB x = true) (h2 : x.sn = p.sn) (h3 : x.mn = p.mn) (h4 : x.ix.toNat < p.ps.length) (h5 : emp p.ps[x.ix.toNat] = true) : DFun Try.prog 26 [.loc 0 0, .agg (pcD x)] [.mix 68 [.val (.int .u64 p.sn), .val (.int .i64 p.mn), .arr 1], .arx 23 1 (p.ps).length ((p.ps).flatMap fun b => [rwB b])] (.val (.int .i64 0)) [.mix 68 [.val (.int .u64 p.sn), .val (.int .i64 p.mn), .arr 1], .arx 23 1 p.ps.length ((p.ps.set x.ix.toNat x.b).flatMap fun b => [rwB b])] := by
 refine qn (N := 9) 2 (by kernel_rfl) Try.func26 rfl rfl rfl (by simp only [fr0, qal, qam]; exact rfl) rfl fun s0 hs0 => ?_
 refine qF rfl hs0 ?_
 refine zam 2 ?_
 refine zac ?_
 refine zaj rfl (qz 2 rfl (ev1 rfl) rfl) ?_
 refine zaj rfl (zao 3 rfl j4 rfl) ?_
 refine zab ?_
 refine qr (l0 := [_]) rfl rfl rfl rfl rfl hs0 ?_
 refine za rfl (qX rfl en (ec (ev1 rfl) en)) ?_
 refine zab ⟨_, _, _, 4, ev1 rfl, qaF hs0 (by decide), rfl, ?_⟩
 have hs1 : s0.M.length ≤ 4 := qaF hs0 (by decide)
 refine qE rfl hs0 ?_
 refine zah ?_
 refine zaa 1 rfl ?_
 refine za rfl (qi rfl j5 (ev1 rfl) rfl rfl) ?_
 refine zaj rfl (zai [0, 1] [] [] rfl (ev1 rfl) (ec (ev1 rfl) (ec (ev1 rfl) en)) rfl (by exact jx _ _ ⟨rfl, (by first | exact rfl | exact arx_fits rfl rfl (vwL_flat (fun _ => rfl) _) | exact kA rfl rfl (qp (fun _ => rfl) _) | exact qy rfl rfl (fun _ => rfl) | exact kB rfl rfl (fun _ => rfl)), trivial⟩) (Hz p x hx h2 h3 h4 h5) rfl rfl rfl (by exact (wrc rfl (wrc (by first | exact rfl | exact kK (fun _ => rfl) | exact ko (qp (fun _ => rfl) _) | exact kp (fun _ => rfl) | exact kr (fun _ => rfl)) rfl))) rfl rfl) ?_
 refine zab ?_
 refine zah ?_
 refine qc rfl (qG rfl qU (ev1 rfl) (ev1 rfl) rfl) ?_
 refine zab ?_
 refine qe ?_
 refine jO (kH [3] [] rfl rfl (KU _) rfl rfl rfl rfl rfl) ?_
 refine kc [0, 1] (rs1 rfl (jB qU rfl rfl rfl)) rfl rfl ?_ ⟨rfl, qy rfl rfl (fun _ => rfl), trivial⟩
 rfl
theorem try_n (p : PiM) (x : PcM) (hx : pcB x = true) (h2 : p.sn < x.sn) : DFun Try.prog 26 [.loc 0 0, .agg (pcD x)] [.mix 68 [.val (.int .u64 p.sn), .val (.int .i64 p.mn), .arr 1], .arx 23 1 (p.ps).length ((p.ps).flatMap fun b => [rwB b])] (.val (.int .i64 0)) [.mix 68 [.val (.int .u64 x.sn), .val (.int .i64 x.mn), .arr 2], .arx 23 1 (p.ps).length ((p.ps).flatMap fun b => [rwB b]), .arx 23 1 x.mn.toNat (((qax x.mn.toNat ([] : List Int)).set x.ix.toNat x.b).flatMap fun b => [rwB b])] := by
 refine qn (N := 9) 2 (by kernel_rfl) Try.func26 rfl rfl rfl (by simp only [fr0, qal, qam]; exact rfl) rfl fun s0 hs0 => ?_
 refine qF rfl hs0 ?_
 refine zam 2 ?_
 refine zac ?_
 refine zaj rfl (qz 2 rfl (ev1 rfl) rfl) ?_
 refine zaj rfl (zao 3 rfl j4 rfl) ?_
 refine zab ?_
 refine qr (l0 := [_]) rfl rfl rfl rfl rfl hs0 ?_
 refine za rfl (qX rfl en (ec (ev1 rfl) en)) ?_
 refine zab ⟨_, _, _, 4, ev1 rfl, qaF hs0 (by decide), rfl, ?_⟩
 have hs1 : s0.M.length ≤ 4 := qaF hs0 (by decide)
 refine qE rfl hs0 ?_
 refine zag ?_
 refine zam 1 ?_
 refine zac ?_
 refine zaa 1 rfl ?_
 refine za rfl (qi rfl j5 (ev1 rfl) rfl rfl) ?_
 refine zaj rfl (zai [0, 1] [] [4] rfl (ev1 rfl) (ec (ev1 rfl) (ec (ev1 rfl) en)) rfl (by exact jx _ _ ⟨rfl, (by first | exact rfl | exact arx_fits rfl rfl (vwL_flat (fun _ => rfl) _) | exact kA rfl rfl (qp (fun _ => rfl) _) | exact qy rfl rfl (fun _ => rfl) | exact kB rfl rfl (fun _ => rfl)), trivial⟩) (HA p x hx h2) rfl rfl rfl (by exact (wrc rfl (wrc (by first | exact rfl | exact kK (fun _ => rfl) | exact ko (qp (fun _ => rfl) _) | exact kp (fun _ => rfl) | exact kr (fun _ => rfl)) (wrc (by first | exact rfl | exact kK (fun _ => rfl) | exact ko (qp (fun _ => rfl) _) | exact kp (fun _ => rfl) | exact kr (fun _ => rfl)) rfl)))) rfl rfl) ?_
 refine zab ?_
 refine zah ?_
 refine qc rfl (qG rfl qU (ev1 rfl) (ev1 rfl) rfl) ?_
 refine zab ?_
 refine qe ?_
 refine jO (kH [3] [] rfl rfl (KU _) rfl rfl rfl rfl rfl) ?_
 refine kc [0, 1, 4] (rs1 rfl (jB qU rfl rfl rfl)) rfl rfl ?_ ⟨rfl, qy rfl rfl (fun _ => rfl), qy rfl rfl (fun _ => rfl), trivial⟩
 rfl
end Go.Proofs.Ytofklkbfkoliiaa
namespace Go.Proofs.Ytofklkbfkoliiaa
set_option linter.unusedVariables false
set_option linter.unusedSimpArgs false
open Go.RowKit
theorem y3 (b : Bool) {n : Int} (hn : n ≠ 0) : (vV b n != 0) = !b := by cases b <;> simp [vV, hn]
theorem GW (b : Bool) {n : Int} (hn : n ≠ 0) : (vV b n == 0) = b := by cases b <;> simp [vV, hn]
def zPi : PiM := ⟨0, 0, []⟩
def jo (p : PiM) (x : PcM) : Int × PiM :=
 if pcB x = true then
  if x.sn < p.sn then (241, p)
  else if p.sn < x.sn then (0, ⟨x.sn, x.mn, (qax x.mn.toNat []).set x.ix.toNat x.b⟩)
  else if x.mn ≠ p.mn then (311, p)
  else if emp (p.ps.getD x.ix.toNat []) = true then (0, { p with ps := p.ps.set x.ix.toNat x.b }) else (5, p)
 else (311, p)
theorem GX {sn mn : Int} : ∀ {ps : List (List Int)} {k : Int}, xA sn mn ps k = true ↔ ∀ (i : Nat) (h : i < ps.length), emp ps[i] = true ∨ pcB ⟨sn, k + i, mn, ps[i]⟩ = true
 | [], k => by simp [xA]
 | b :: r, k => by
  rw [xA, qan, qaA, GX]
  constructor
  ·rintro ⟨h1, h2⟩ i hi
   cases i with
   | zero => simpa using h1
   | succ i =>
    have := h2 i (by simpa using hi)
    rw [show k + ((i + 1 : Nat) : Int) = k + 1 + i by omega]
    exact this
  ·intro h
   refine ⟨?_, fun i hi => ?_⟩
   ·have := h 0 (by simp)
    rw [show k + ((0 : Nat) : Int) = k by omega] at this
    exact this
   ·have := h (i + 1) (by simpa using hi)
    rw [show k + ((i + 1 : Nat) : Int) = k + 1 + i by omega] at this
    exact this
theorem cntE_zero : ∀ {ps : List (List Int)}, v4 ps = 0 ↔ ∀ (i : Nat) (h : i < ps.length), emp ps[i] = true
 | [] => by simp [v4]
 | b :: r => by
  rw [v4]
  constructor
  ·intro h i hi
   have hb : emp b = true := by
    cases hb : emp b with
    | true => rfl
    | false => rw [hb] at h; simp at h
   rw [if_pos hb, qal] at h
   cases i with
   | zero => exact hb
   | succ i => exact cntE_zero.1 h i (by simpa using hi)
  ·intro h
   rw [if_pos (show emp b = true from h 0 (by simp)), qal]
   exact cntE_zero.2 fun i hi => h (i + 1) (by simpa using hi)
theorem piOk_iff {p : PiM} : kZ p = true ↔ noB p = true ∨ ((∀ (i : Nat) (h : i < p.ps.length), emp p.ps[i] = true ∨ pcB ⟨p.sn, i, p.mn, p.ps[i]⟩ = true) ∧ (∃ (i : Nat) (h : i < p.ps.length), emp p.ps[i] = false) ∧ (p.ps.length : Int) = p.mn) := by
 unfold kZ
 rw [qaA, qan, qan, GX, beq_iff_eq]
 have h1 : (!(((v4 p.ps : Nat) : Int) == 0)) = true ↔ ∃ (i : Nat) (h : i < p.ps.length), emp p.ps[i] = false := by
  constructor
  ·intro h
   refine Classical.byContradiction fun hn => ?_
   have h0 : v4 p.ps = 0 := cntE_zero.2 fun i hi => by
    cases he : emp p.ps[i] with
    | true => rfl
    | false => exact absurd ⟨i, hi, he⟩ hn
   rw [h0] at h
   exact absurd h (by decide)
  ·rintro ⟨i, hi, he⟩
   have h0 : v4 p.ps ≠ 0 := fun h => by
    rw [cntE_zero.1 h i hi] at he
    cases he
   simp
   exact h0
 rw [h1]
 simp only [Int.zero_add]
 constructor
 ·rintro (h | ⟨⟨h2, h3⟩, h4⟩)
  ·exact .inl h
  ·exact .inr ⟨h2, h3, h4⟩
 ·rintro (h | ⟨h2, h3, h4⟩)
  ·exact .inl h
  ·exact .inr ⟨⟨h2, h3⟩, h4⟩
theorem noB_iff {p : PiM} : noB p = true ↔ p = zPi := by
 obtain ⟨sn, mn, ps⟩ := p
 unfold noB zPi
 simp only [qan, beq_iff_eq, PiM.mk.injEq]
 constructor
 ·rintro ⟨⟨h1, h2⟩, h3⟩
  exact ⟨h1, h2, qaL (by omega)⟩
 ·rintro ⟨h1, h2, h3⟩
  exact ⟨⟨h1, h2⟩, by rw [h3]; rfl⟩
theorem YP {p : PiM} (hp : kZ p = true) : (p.ps.length : Int) = p.mn := by
 rcases piOk_iff.1 hp with h | ⟨_, _, h⟩
 ·rw [noB_iff.1 h]; rfl
 ·exact h
theorem pi_sn {p : PiM} (hp : kZ p = true) : (p = zPi) ∨ (1 ≤ p.sn ∧ p.sn ≤ 4611686018427387904 ∧ 1 ≤ p.mn ∧ p.mn ≤ 64) := by
 rcases piOk_iff.1 hp with h | ⟨h1, ⟨i, hi, he⟩, h3⟩
 ·exact .inl (noB_iff.1 h)
 ·right
  rcases h1 i hi with h | h
  ·rw [he] at h; cases h
  ·have := pcB_iff.1 h
   dsimp only at this
   omega
theorem yC {p : PiM} (hp : kZ p = true) : p.ps.length ≤ 64 ∧ ∀ b ∈ p.ps, b.length ≤ 256 := by
 have hl := YP hp
 rcases pi_sn hp with rfl | h
 ·exact ⟨by decide, fun b hb => by cases hb⟩
 ·refine ⟨by omega, fun b hb => ?_⟩
  obtain ⟨i, hi, rfl⟩ := List.getElem_of_mem hb
  rcases piOk_iff.1 hp with h0 | ⟨h1, _, _⟩
  ·rw [noB_iff.1 h0] at h; exact absurd h (by decide)
  ·rcases h1 i hi with he | he
   ·rw [emp_iff.1 he]; simp
   ·have := pcB_iff.1 he
    dsimp only at this
    omega
theorem HB {x : PcM} (h : pcB x = true) : emp x.b = false := by
 have := pcB_iff.1 h
 cases he : emp x.b with
 | false => rfl
 | true =>
  rw [emp_iff.1 he] at this
  simp at this
theorem gJ {p : PiM} (hp : kZ p = true) (x : PcM) :
  (pcB x = true ∧ p.sn < x.sn ∧ jo p x = (0, ⟨x.sn, x.mn, (qax x.mn.toNat []).set x.ix.toNat x.b⟩)) ∨
  (pcB x = true ∧ x.sn = p.sn ∧ x.mn = p.mn ∧ (∃ h : x.ix.toNat < p.ps.length, emp p.ps[x.ix.toNat] = true) ∧ jo p x = (0, { p with ps := p.ps.set x.ix.toNat x.b })) ∨
  (∃ e : Int, e ≠ 0 ∧ jo p x = (e, p) ∧ ((pcB x = false ∧ e = 311) ∨ (pcB x = true ∧ x.sn < p.sn ∧ e = 241) ∨ (pcB x = true ∧ x.sn = p.sn ∧ x.mn ≠ p.mn ∧ e = 311) ∨ (pcB x = true ∧ x.sn = p.sn ∧ x.mn = p.mn ∧ (∃ h : x.ix.toNat < p.ps.length, emp p.ps[x.ix.toNat] = false) ∧ e = 5))) := by
 unfold jo
 cases hx : pcB x with
 | false => exact .inr (.inr ⟨311, by decide, rfl, .inl ⟨rfl, rfl⟩⟩)
 | true =>
  rw [if_pos rfl]
  by_cases h1 : x.sn < p.sn
  ·rw [if_pos h1]
   exact .inr (.inr ⟨241, by decide, rfl, .inr (.inl ⟨rfl, h1, rfl⟩)⟩)
  rw [if_neg h1]
  by_cases h2 : p.sn < x.sn
  ·rw [if_pos h2]
   exact .inl ⟨rfl, h2, rfl⟩
  rw [if_neg h2]
  have hs : x.sn = p.sn := by omega
  by_cases h3 : x.mn ≠ p.mn
  ·rw [if_pos h3]
   exact .inr (.inr ⟨311, by decide, rfl, .inr (.inr (.inl ⟨rfl, hs, h3, rfl⟩))⟩)
  rw [if_neg h3]
  have hm : x.mn = p.mn := by simpa using h3
  have hl := YP hp
  have hpx := pcB_iff.1 hx
  have hi : x.ix.toNat < p.ps.length := by omega
  rw [show p.ps.getD x.ix.toNat [] = p.ps[x.ix.toNat] from by rw [qaJ, qak hi]; rfl]
  cases he : emp p.ps[x.ix.toNat] with
  | true => rw [if_pos rfl]; exact .inr (.inl ⟨rfl, hs, hm, ⟨hi, he⟩, rfl⟩)
  | false => rw [if_neg (by decide)]; exact .inr (.inr ⟨5, by decide, rfl, .inr (.inr (.inr ⟨rfl, hs, hm, ⟨hi, he⟩, rfl⟩))⟩)
theorem A5 {p q : PiM} {x : PcM} (hp : kZ p = true) (h : (jo p x).2 = q) : kZ q = true := by
 subst h
 rcases gJ hp x with ⟨hx, h2, e⟩ | ⟨hx, h2, h3, ⟨h4, h5⟩, e⟩ | ⟨_, _, e, _⟩
 ·rw [e]
  have hpx := pcB_iff.1 hx
  refine piOk_iff.2 (.inr ⟨fun i hi => ?_, ⟨x.ix.toNat, by simp; omega, ?_⟩, by simp; omega⟩)
  ·by_cases hj : x.ix.toNat = i
   ·subst hj
    right
    simp only [List.getElem_set_self]
    rw [show ((x.ix.toNat : Nat) : Int) = x.ix by omega]
    exact hx
   ·left
    simp only [List.getElem_set_ne hj, List.getElem_replicate]
    rfl
  ·simp only [List.getElem_set_self]
   exact HB hx
 ·rw [e]
  have hpx := pcB_iff.1 hx
  have hl := YP hp
  have h0 : noB p = false := by
   cases h : noB p with
   | false => rfl
   | true => rw [noB_iff.1 h] at h4; cases h4
  rcases piOk_iff.1 hp with h | ⟨g1, _, g3⟩
  ·rw [h0] at h; cases h
  refine piOk_iff.2 (.inr ⟨fun i hi => ?_, ⟨x.ix.toNat, by simpa using h4, ?_⟩, by simp; omega⟩)
  ·by_cases hj : x.ix.toNat = i
   ·subst hj
    right
    simp only [List.getElem_set_self]
    rw [show ((x.ix.toNat : Nat) : Int) = x.ix by omega, ← h2, ← h3]
    exact hx
   ·have := g1 i (by simpa using hi)
    simp only [List.getElem_set_ne hj]
    exact this
  ·simp only [List.getElem_set_self]
   exact HB hx
 ·rw [e]; exact hp
def km : List PcM → PiM × Nat → PiM × Nat
 | [], s => s
 | x :: r, s => km r ((jo s.1 x).2, if (jo s.1 x).1 = 0 then s.2 else s.2 + 1)
theorem jR (l : List PcM) {k : Nat} (s : PiM × Nat) (h : k < l.length) : km (l.take (k + 1)) s = ((jo (km (l.take k) s).1 l[k]).2, if (jo (km (l.take k) s).1 l[k]).1 = 0 then (km (l.take k) s).2 else (km (l.take k) s).2 + 1) := by
 induction l generalizing k s with
 | nil => simp at h
 | cons x r ih =>
  cases k with
  | zero => simp [km]
  | succ k =>
   rw [List.take_succ_cons, List.take_succ_cons, km, km, ih _ (by simpa using h)]
   rfl
theorem zX {p : PiM} (hp : kZ p = true) : ∀ (l : List PcM) (n : Nat), kZ (km l (p, n)).1 = true ∧ (km l (p, n)).2 ≤ n + l.length
 | [], n => ⟨hp, qaE _⟩
 | x :: r, n => by
  rw [km]
  have h1 := zX (A5 hp (x := x) rfl) r (if (jo p x).1 = 0 then n else n + 1)
  refine ⟨h1.1, qaF h1.2 ?_⟩
  rw [qaI]
  split <;> omega
end Go.Proofs.Ytofklkbfkoliiaa
namespace Go.Proofs.Ytofklkbfkoliiaa
set_option linter.unusedVariables false
set_option linter.unusedSimpArgs false
open Go.RowKit
attribute [local irreducible] tkN jP ky jo
theorem rw_nl (l : List (List Int)) : D.nlL (l.flatMap fun b => [rwB b]) = true := by
 induction l with
 | nil => rfl
 | cons b r ih => rw [qaD]; exact ih
theorem U6 : Wk (.val (.agg #[.int .u64 0, .int .i64 0, .slice none 0 0])) (.agg (piD zPi)) := (Wk.vagg _).trans (Wk.agg (.cons (.refl _) (.cons (.refl _) (.cons (Wk.slm0 1) .nil))))
theorem wk_pe (e : Int) : Wk (.tup [.val (.agg #[.int .u64 0, .int .i64 0, .slice none 0 0]), .val (.int .i64 e)]) (.tup [.agg (piD zPi), .val (.int .i64 e)]) := Wk.tup (.cons U6 (.cons (.refl _) .nil))
theorem JB {T : TypeId} {u v : Value} {n : Nat} {l : List (List Int)} : vw [] jw [.arx T 1 n (l.flatMap fun b => [rwB b])] (.agg [.val u, .val v, .arr 0]) = some (.agg [.val u, .val v, .slm 1 n (l.flatMap fun b => [rwB b])]) := by
 have h := XR (σ := []) (V := jw) (M := [.arx T 1 n (l.flatMap fun b => [rwB b])]) (i := 0) rfl rfl rfl (rw_nl l)
 have h2 := wj (σ := []) (V := jw) (M := [.arx T 1 n (l.flatMap fun b => [rwB b])]) (d := .val u) rfl (wj (d := .val v) rfl (wj h (show vwL [] jw _ [] = some [] from rfl)))
 unfold vw
 rw [h2]
 rfl
theorem ZL (p : PiM) (hn : p.ps.length ≤ 5000) (hb : ∀ b ∈ p.ps, b.length ≤ 100000) (hp : kZ p = true) (x : PcM) (hx : pcB x = false) : DFun Try.prog 6 [.agg (piD p), .agg (pcD x)] [] (.tup [.val (.agg #[.int .u64 0, .int .i64 0, .slice none 0 0]), .val (.int .i64 311)]) [] := by
 refine qn (N := 17) 0 (by kernel_rfl) Try.func6 rfl rfl rfl (by simp only [fr0, qal, qam]; exact rfl) rfl fun s0 hs0 => ?_
 refine qF rfl hs0 ?_
 refine zam 4 ?_
 refine zac ?_
 refine zaj rfl (qz 0 rfl (ev1 rfl) rfl) ?_
 refine zaj rfl (qz 1 rfl (ev1 rfl) rfl) ?_
 refine zaj rfl (zao 2 rfl wu rfl) ?_
 refine zaj rfl (zao 3 rfl j4 rfl) ?_
 refine zab ?_
 refine qr (l0 := [_]) rfl rfl rfl rfl rfl hs0 ?_
 refine za rfl (qX rfl en (ec (ev1 rfl) en)) ?_
 refine zab ⟨_, _, _, 4, ev1 rfl, qaF hs0 (by decide), rfl, ?_⟩
 have hs1 : s0.M.length ≤ 4 := qaF hs0 (by decide)
 refine qE rfl hs0 ?_
 refine zag ?_
 refine zam 2 ?_
 refine zac ?_
 refine za rfl (qi rfl kJ (ev1 rfl) rfl rfl) ?_
 refine zaj rfl (zai [] [] [4, 5] rfl (ev1 rfl) (ec (ev1 rfl) en) rfl rfl (w5 p hn hb hp) rfl rfl rfl (by exact (wrc rfl (wrc (by first | exact rfl | exact kK (fun _ => rfl) | exact ko (qp (fun _ => rfl) _) | exact kp (fun _ => rfl) | exact kr (fun _ => rfl)) rfl))) rfl rfl) ?_
 refine zaa 1 rfl ?_
 refine zab ?_
 refine zah ?_
 refine zaa 1 rfl ?_
 refine za rfl (qi rfl j5 (ev1 rfl) rfl rfl) ?_
 refine ke rfl (qA [4, 5] [] [] rfl (ev1 rfl) (ec (ev1 rfl) (ec (ev1 rfl) en)) rfl (by exact jx _ _ ⟨rfl, (by first | exact rfl | exact arx_fits rfl rfl (vwL_flat (fun _ => rfl) _) | exact kA rfl rfl (qp (fun _ => rfl) _) | exact qy rfl rfl (fun _ => rfl) | exact kB rfl rfl (fun _ => rfl)), trivial⟩) (U2 p x hx) rfl rfl rfl (by exact (wrc rfl (wrc (by first | exact rfl | exact kK (fun _ => rfl) | exact ko (qp (fun _ => rfl) _) | exact kp (fun _ => rfl) | exact kr (fun _ => rfl)) rfl))) rfl rfl) rfl ?_
 refine jO (qP [3] [] rfl rfl rfl (yj _ _) rfl rfl rfl rfl rfl) ?_
 refine qH (rs2 rfl (vf kJ rfl rfl rfl) (jB qU rfl rfl rfl)) rfl ?_
 rfl
theorem ZM (p : PiM) (hn : p.ps.length ≤ 5000) (hb : ∀ b ∈ p.ps, b.length ≤ 100000) (hp : kZ p = true) (x : PcM) (hx : pcB x = true) (h2 : x.sn < p.sn) : DFun Try.prog 6 [.agg (piD p), .agg (pcD x)] [] (.tup [.val (.agg #[.int .u64 0, .int .i64 0, .slice none 0 0]), .val (.int .i64 241)]) [] := by
 refine qn (N := 17) 0 (by kernel_rfl) Try.func6 rfl rfl rfl (by simp only [fr0, qal, qam]; exact rfl) rfl fun s0 hs0 => ?_
 refine qF rfl hs0 ?_
 refine zam 4 ?_
 refine zac ?_
 refine zaj rfl (qz 0 rfl (ev1 rfl) rfl) ?_
 refine zaj rfl (qz 1 rfl (ev1 rfl) rfl) ?_
 refine zaj rfl (zao 2 rfl wu rfl) ?_
 refine zaj rfl (zao 3 rfl j4 rfl) ?_
 refine zab ?_
 refine qr (l0 := [_]) rfl rfl rfl rfl rfl hs0 ?_
 refine za rfl (qX rfl en (ec (ev1 rfl) en)) ?_
 refine zab ⟨_, _, _, 4, ev1 rfl, qaF hs0 (by decide), rfl, ?_⟩
 have hs1 : s0.M.length ≤ 4 := qaF hs0 (by decide)
 refine qE rfl hs0 ?_
 refine zag ?_
 refine zam 2 ?_
 refine zac ?_
 refine za rfl (qi rfl kJ (ev1 rfl) rfl rfl) ?_
 refine zaj rfl (zai [] [] [4, 5] rfl (ev1 rfl) (ec (ev1 rfl) en) rfl rfl (w5 p hn hb hp) rfl rfl rfl (by exact (wrc rfl (wrc (by first | exact rfl | exact kK (fun _ => rfl) | exact ko (qp (fun _ => rfl) _) | exact kp (fun _ => rfl) | exact kr (fun _ => rfl)) rfl))) rfl rfl) ?_
 refine zaa 1 rfl ?_
 refine zab ?_
 refine zah ?_
 refine zaa 1 rfl ?_
 refine za rfl (qi rfl j5 (ev1 rfl) rfl rfl) ?_
 refine ke rfl (qA [4, 5] [] [] rfl (ev1 rfl) (ec (ev1 rfl) (ec (ev1 rfl) en)) rfl (by exact jx _ _ ⟨rfl, (by first | exact rfl | exact arx_fits rfl rfl (vwL_flat (fun _ => rfl) _) | exact kA rfl rfl (qp (fun _ => rfl) _) | exact qy rfl rfl (fun _ => rfl) | exact kB rfl rfl (fun _ => rfl)), trivial⟩) (U3 p x hx h2) rfl rfl rfl (by exact (wrc rfl (wrc (by first | exact rfl | exact kK (fun _ => rfl) | exact ko (qp (fun _ => rfl) _) | exact kp (fun _ => rfl) | exact kr (fun _ => rfl)) rfl))) rfl rfl) rfl ?_
 refine jO (qP [3] [] rfl rfl rfl (yj _ _) rfl rfl rfl rfl rfl) ?_
 refine qH (rs2 rfl (vf kJ rfl rfl rfl) (jB qU rfl rfl rfl)) rfl ?_
 rfl
theorem ZN (p : PiM) (hn : p.ps.length ≤ 5000) (hb : ∀ b ∈ p.ps, b.length ≤ 100000) (hp : kZ p = true) (x : PcM) (hx : pcB x = true) (h2 : x.sn = p.sn) (h3 : x.mn ≠ p.mn) : DFun Try.prog 6 [.agg (piD p), .agg (pcD x)] [] (.tup [.val (.agg #[.int .u64 0, .int .i64 0, .slice none 0 0]), .val (.int .i64 311)]) [] := by
 refine qn (N := 17) 0 (by kernel_rfl) Try.func6 rfl rfl rfl (by simp only [fr0, qal, qam]; exact rfl) rfl fun s0 hs0 => ?_
 refine qF rfl hs0 ?_
 refine zam 4 ?_
 refine zac ?_
 refine zaj rfl (qz 0 rfl (ev1 rfl) rfl) ?_
 refine zaj rfl (qz 1 rfl (ev1 rfl) rfl) ?_
 refine zaj rfl (zao 2 rfl wu rfl) ?_
 refine zaj rfl (zao 3 rfl j4 rfl) ?_
 refine zab ?_
 refine qr (l0 := [_]) rfl rfl rfl rfl rfl hs0 ?_
 refine za rfl (qX rfl en (ec (ev1 rfl) en)) ?_
 refine zab ⟨_, _, _, 4, ev1 rfl, qaF hs0 (by decide), rfl, ?_⟩
 have hs1 : s0.M.length ≤ 4 := qaF hs0 (by decide)
 refine qE rfl hs0 ?_
 refine zag ?_
 refine zam 2 ?_
 refine zac ?_
 refine za rfl (qi rfl kJ (ev1 rfl) rfl rfl) ?_
 refine zaj rfl (zai [] [] [4, 5] rfl (ev1 rfl) (ec (ev1 rfl) en) rfl rfl (w5 p hn hb hp) rfl rfl rfl (by exact (wrc rfl (wrc (by first | exact rfl | exact kK (fun _ => rfl) | exact ko (qp (fun _ => rfl) _) | exact kp (fun _ => rfl) | exact kr (fun _ => rfl)) rfl))) rfl rfl) ?_
 refine zaa 1 rfl ?_
 refine zab ?_
 refine zah ?_
 refine zaa 1 rfl ?_
 refine za rfl (qi rfl j5 (ev1 rfl) rfl rfl) ?_
 refine ke rfl (qA [4, 5] [] [] rfl (ev1 rfl) (ec (ev1 rfl) (ec (ev1 rfl) en)) rfl (by exact jx _ _ ⟨rfl, (by first | exact rfl | exact arx_fits rfl rfl (vwL_flat (fun _ => rfl) _) | exact kA rfl rfl (qp (fun _ => rfl) _) | exact qy rfl rfl (fun _ => rfl) | exact kB rfl rfl (fun _ => rfl)), trivial⟩) (U4 p x hx h2 h3) rfl rfl rfl (by exact (wrc rfl (wrc (by first | exact rfl | exact kK (fun _ => rfl) | exact ko (qp (fun _ => rfl) _) | exact kp (fun _ => rfl) | exact kr (fun _ => rfl)) rfl))) rfl rfl) rfl ?_
 refine jO (qP [3] [] rfl rfl rfl (yj _ _) rfl rfl rfl rfl rfl) ?_
 refine qH (rs2 rfl (vf kJ rfl rfl rfl) (jB qU rfl rfl rfl)) rfl ?_
 rfl
theorem ZO (p : PiM) (hn : p.ps.length ≤ 5000) (hb : ∀ b ∈ p.ps, b.length ≤ 100000) (hp : kZ p = true) (x : PcM) (hx : pcB x = true) (h2 : x.sn = p.sn) (h3 : x.mn = p.mn) (h4 : x.ix.toNat < p.ps.length) (h5 : emp p.ps[x.ix.toNat] = false) : DFun Try.prog 6 [.agg (piD p), .agg (pcD x)] [] (.tup [.val (.agg #[.int .u64 0, .int .i64 0, .slice none 0 0]), .val (.int .i64 5)]) [] := by
 refine qn (N := 17) 0 (by kernel_rfl) Try.func6 rfl rfl rfl (by simp only [fr0, qal, qam]; exact rfl) rfl fun s0 hs0 => ?_
 refine qF rfl hs0 ?_
 refine zam 4 ?_
 refine zac ?_
 refine zaj rfl (qz 0 rfl (ev1 rfl) rfl) ?_
 refine zaj rfl (qz 1 rfl (ev1 rfl) rfl) ?_
 refine zaj rfl (zao 2 rfl wu rfl) ?_
 refine zaj rfl (zao 3 rfl j4 rfl) ?_
 refine zab ?_
 refine qr (l0 := [_]) rfl rfl rfl rfl rfl hs0 ?_
 refine za rfl (qX rfl en (ec (ev1 rfl) en)) ?_
 refine zab ⟨_, _, _, 4, ev1 rfl, qaF hs0 (by decide), rfl, ?_⟩
 have hs1 : s0.M.length ≤ 4 := qaF hs0 (by decide)
 refine qE rfl hs0 ?_
 refine zag ?_
 refine zam 2 ?_
 refine zac ?_
 refine za rfl (qi rfl kJ (ev1 rfl) rfl rfl) ?_
 refine zaj rfl (zai [] [] [4, 5] rfl (ev1 rfl) (ec (ev1 rfl) en) rfl rfl (w5 p hn hb hp) rfl rfl rfl (by exact (wrc rfl (wrc (by first | exact rfl | exact kK (fun _ => rfl) | exact ko (qp (fun _ => rfl) _) | exact kp (fun _ => rfl) | exact kr (fun _ => rfl)) rfl))) rfl rfl) ?_
 refine zaa 1 rfl ?_
 refine zab ?_
 refine zah ?_
 refine zaa 1 rfl ?_
 refine za rfl (qi rfl j5 (ev1 rfl) rfl rfl) ?_
 refine ke rfl (qA [4, 5] [] [] rfl (ev1 rfl) (ec (ev1 rfl) (ec (ev1 rfl) en)) rfl (by exact jx _ _ ⟨rfl, (by first | exact rfl | exact arx_fits rfl rfl (vwL_flat (fun _ => rfl) _) | exact kA rfl rfl (qp (fun _ => rfl) _) | exact qy rfl rfl (fun _ => rfl) | exact kB rfl rfl (fun _ => rfl)), trivial⟩) (U5 p x hx h2 h3 h4 h5) rfl rfl rfl (by exact (wrc rfl (wrc (by first | exact rfl | exact kK (fun _ => rfl) | exact ko (qp (fun _ => rfl) _) | exact kp (fun _ => rfl) | exact kr (fun _ => rfl)) rfl))) rfl rfl) rfl ?_
 refine jO (qP [3] [] rfl rfl rfl (yj _ _) rfl rfl rfl rfl rfl) ?_
 refine qH (rs2 rfl (vf kJ rfl rfl rfl) (jB qU rfl rfl rfl)) rfl ?_
 rfl
theorem ZP (p : PiM) (hn : p.ps.length ≤ 5000) (hb : ∀ b ∈ p.ps, b.length ≤ 100000) (hp : kZ p = true) (x : PcM) (hx : pcB x = true) (h2 : x.sn = p.sn) (h3 : x.mn = p.mn) (h4 : x.ix.toNat < p.ps.length) (h5 : emp p.ps[x.ix.toNat] = true) : DFun Try.prog 6 [.agg (piD p), .agg (pcD x)] [] (.tup [.agg [.val (.int .u64 p.sn), .val (.int .i64 p.mn), .arr 0], .val (.int .i64 0)]) [.arx 23 1 p.ps.length ((p.ps.set x.ix.toNat x.b).flatMap fun b => [rwB b])] := by
 refine qn (N := 17) 0 (by kernel_rfl) Try.func6 rfl rfl rfl (by simp only [fr0, qal, qam]; exact rfl) rfl fun s0 hs0 => ?_
 refine qF rfl hs0 ?_
 refine zam 4 ?_
 refine zac ?_
 refine zaj rfl (qz 0 rfl (ev1 rfl) rfl) ?_
 refine zaj rfl (qz 1 rfl (ev1 rfl) rfl) ?_
 refine zaj rfl (zao 2 rfl wu rfl) ?_
 refine zaj rfl (zao 3 rfl j4 rfl) ?_
 refine zab ?_
 refine qr (l0 := [_]) rfl rfl rfl rfl rfl hs0 ?_
 refine za rfl (qX rfl en (ec (ev1 rfl) en)) ?_
 refine zab ⟨_, _, _, 4, ev1 rfl, qaF hs0 (by decide), rfl, ?_⟩
 have hs1 : s0.M.length ≤ 4 := qaF hs0 (by decide)
 refine qE rfl hs0 ?_
 refine zag ?_
 refine zam 2 ?_
 refine zac ?_
 refine za rfl (qi rfl kJ (ev1 rfl) rfl rfl) ?_
 refine zaj rfl (zai [] [] [4, 5] rfl (ev1 rfl) (ec (ev1 rfl) en) rfl rfl (w5 p hn hb hp) rfl rfl rfl (by exact (wrc rfl (wrc (by first | exact rfl | exact kK (fun _ => rfl) | exact ko (qp (fun _ => rfl) _) | exact kp (fun _ => rfl) | exact kr (fun _ => rfl)) rfl))) rfl rfl) ?_
 refine zaa 1 rfl ?_
 refine zab ?_
 refine zah ?_
 refine zaa 1 rfl ?_
 refine za rfl (qi rfl j5 (ev1 rfl) rfl rfl) ?_
 refine zaj rfl (zai [4, 5] [] [] rfl (ev1 rfl) (ec (ev1 rfl) (ec (ev1 rfl) en)) rfl (by exact jx _ _ ⟨rfl, (by first | exact rfl | exact arx_fits rfl rfl (vwL_flat (fun _ => rfl) _) | exact kA rfl rfl (qp (fun _ => rfl) _) | exact qy rfl rfl (fun _ => rfl) | exact kB rfl rfl (fun _ => rfl)), trivial⟩) (Hz p x hx h2 h3 h4 h5) rfl rfl rfl (by exact (wrc rfl (wrc (by first | exact rfl | exact kK (fun _ => rfl) | exact ko (qp (fun _ => rfl) _) | exact kp (fun _ => rfl) | exact kr (fun _ => rfl)) rfl))) rfl rfl) ?_
 refine zab ?_
 refine zah ?_
 refine zaa 1 rfl ?_
 refine za rfl (qt rfl (ev1 rfl) (fun s v h => by cases h; exact ⟨_, rfl⟩)) ?_
 refine za rfl (qa rfl je (ev1 rfl)) ?_
 refine za rfl (qi rfl kJ (ev1 rfl) rfl rfl) ?_
 refine qc rfl (kL rfl kJ (ev1 rfl) (ev1 rfl) rfl rfl rfl rfl) ?_
 refine qc rfl (qG rfl qU (ev1 rfl) (ev1 rfl) rfl) ?_
 refine zab ?_
 refine qe ?_
 refine jO (kH [3] [] rfl rfl (zW _) rfl rfl rfl rfl rfl) ?_
 refine kc [5] (rs2 rfl (wB kJ rfl rfl rfl) (jB qU rfl rfl rfl)) rfl rfl ?_ ⟨?_, trivial⟩
 rfl
 exact qy rfl rfl (fun _ => rfl)
theorem ZQ (p : PiM) (hn : p.ps.length ≤ 5000) (hb : ∀ b ∈ p.ps, b.length ≤ 100000) (hp : kZ p = true) (x : PcM) (hx : pcB x = true) (h2 : p.sn < x.sn) : DFun Try.prog 6 [.agg (piD p), .agg (pcD x)] [] (.tup [.agg [.val (.int .u64 x.sn), .val (.int .i64 x.mn), .arr 0], .val (.int .i64 0)]) [.arx 23 1 x.mn.toNat (((qax x.mn.toNat ([] : List Int)).set x.ix.toNat x.b).flatMap fun b => [rwB b])] := by
 refine qn (N := 17) 0 (by kernel_rfl) Try.func6 rfl rfl rfl (by simp only [fr0, qal, qam]; exact rfl) rfl fun s0 hs0 => ?_
 refine qF rfl hs0 ?_
 refine zam 4 ?_
 refine zac ?_
 refine zaj rfl (qz 0 rfl (ev1 rfl) rfl) ?_
 refine zaj rfl (qz 1 rfl (ev1 rfl) rfl) ?_
 refine zaj rfl (zao 2 rfl wu rfl) ?_
 refine zaj rfl (zao 3 rfl j4 rfl) ?_
 refine zab ?_
 refine qr (l0 := [_]) rfl rfl rfl rfl rfl hs0 ?_
 refine za rfl (qX rfl en (ec (ev1 rfl) en)) ?_
 refine zab ⟨_, _, _, 4, ev1 rfl, qaF hs0 (by decide), rfl, ?_⟩
 have hs1 : s0.M.length ≤ 4 := qaF hs0 (by decide)
 refine qE rfl hs0 ?_
 refine zag ?_
 refine zam 2 ?_
 refine zac ?_
 refine za rfl (qi rfl kJ (ev1 rfl) rfl rfl) ?_
 refine zaj rfl (zai [] [] [4, 5] rfl (ev1 rfl) (ec (ev1 rfl) en) rfl rfl (w5 p hn hb hp) rfl rfl rfl (by exact (wrc rfl (wrc (by first | exact rfl | exact kK (fun _ => rfl) | exact ko (qp (fun _ => rfl) _) | exact kp (fun _ => rfl) | exact kr (fun _ => rfl)) rfl))) rfl rfl) ?_
 refine zaa 1 rfl ?_
 refine zab ?_
 refine zag ?_
 refine zam 1 ?_
 refine zac ?_
 refine zaa 1 rfl ?_
 refine za rfl (qi rfl j5 (ev1 rfl) rfl rfl) ?_
 refine zaj rfl (zai [4, 5] [] [6] rfl (ev1 rfl) (ec (ev1 rfl) (ec (ev1 rfl) en)) rfl (by exact jx _ _ ⟨rfl, (by first | exact rfl | exact arx_fits rfl rfl (vwL_flat (fun _ => rfl) _) | exact kA rfl rfl (qp (fun _ => rfl) _) | exact qy rfl rfl (fun _ => rfl) | exact kB rfl rfl (fun _ => rfl)), trivial⟩) (HA p x hx h2) rfl rfl rfl (by exact (wrc rfl (wrc (by first | exact rfl | exact kK (fun _ => rfl) | exact ko (qp (fun _ => rfl) _) | exact kp (fun _ => rfl) | exact kr (fun _ => rfl)) (wrc (by first | exact rfl | exact kK (fun _ => rfl) | exact ko (qp (fun _ => rfl) _) | exact kp (fun _ => rfl) | exact kr (fun _ => rfl)) rfl)))) rfl rfl) ?_
 refine zab ?_
 refine zah ?_
 refine zaa 1 rfl ?_
 refine za rfl (qt rfl (ev1 rfl) (fun s v h => by cases h; exact ⟨_, rfl⟩)) ?_
 refine za rfl (qa rfl je (ev1 rfl)) ?_
 refine za rfl (qi rfl kJ (ev1 rfl) rfl rfl) ?_
 refine qc rfl (kL rfl kJ (ev1 rfl) (ev1 rfl) rfl rfl rfl rfl) ?_
 refine qc rfl (qG rfl qU (ev1 rfl) (ev1 rfl) rfl) ?_
 refine zab ?_
 refine qe ?_
 refine jO (kH [3] [] rfl rfl (zW _) rfl rfl rfl rfl rfl) ?_
 refine kc [6] (rs2 rfl (wB kJ rfl rfl rfl) (jB qU rfl rfl rfl)) rfl rfl ?_ ⟨?_, trivial⟩
 rfl
 exact qy rfl rfl (fun _ => rfl)
theorem try_e (p : PiM) (x : PcM) (hp : kZ p = true) (e : Int) (he : e ≠ 0) (h : jo p x = (e, p)) : DFun Try.prog 26 [.loc 0 0, .agg (pcD x)] [.mix 68 [.val (.int .u64 p.sn), .val (.int .i64 p.mn), .arr 1], .arx 23 1 (p.ps).length ((p.ps).flatMap fun b => [rwB b])] (.val (.int .i64 e)) [.mix 68 [.val (.int .u64 p.sn), .val (.int .i64 p.mn), .arr 1], .arx 23 1 (p.ps).length ((p.ps).flatMap fun b => [rwB b])] := by
 rcases gJ hp x with ⟨_, _, h1⟩ | ⟨_, _, _, _, h1⟩ | ⟨e1, _, h1, g⟩
 ·rw [h1] at h; exact absurd (congrArg Prod.fst h).symm he
 ·rw [h1] at h; exact absurd (congrArg Prod.fst h).symm he
 ·obtain rfl : e1 = e := by rw [h1] at h; exact congrArg Prod.fst h
  rcases g with ⟨a, rfl⟩ | ⟨a, b, rfl⟩ | ⟨a, b, c, rfl⟩ | ⟨a, b, c, ⟨d, f⟩, rfl⟩
  ·exact A1 p x a
  ·exact A2 p x a b
  ·exact A3 p x a b c
  ·exact A4 p x a b c d f
theorem QR (p : PiM) (hn : p.ps.length ≤ 5000) (hb : ∀ b ∈ p.ps, b.length ≤ 100000) (hp : kZ p = true) (x : PcM) (e : Int) (he : e ≠ 0) (h : (jo p x).1 = e) : DFun Try.prog 6 [.agg (piD p), .agg (pcD x)] [] (.tup [.agg (piD zPi), .val (.int .i64 e)]) [] := by
 refine DFun.wk ?_ (wk_pe e)
 rcases gJ hp x with ⟨_, _, h1⟩ | ⟨_, _, _, _, h1⟩ | ⟨e1, _, h1, g⟩
 ·rw [h1] at h; exact absurd h.symm he
 ·rw [h1] at h; exact absurd h.symm he
 ·obtain rfl : e1 = e := by rw [h1] at h; exact h
  rcases g with ⟨a, rfl⟩ | ⟨a, b, rfl⟩ | ⟨a, b, c, rfl⟩ | ⟨a, b, c, ⟨d, f⟩, rfl⟩
  ·exact ZL p hn hb hp x a
  ·exact ZM p hn hb hp x a b
  ·exact ZN p hn hb hp x a b c
  ·exact ZO p hn hb hp x a b c d f
theorem QS (p : PiM) (hn : p.ps.length ≤ 5000) (hb : ∀ b ∈ p.ps, b.length ≤ 100000) (hp : kZ p = true) (x : PcM) (h : (jo p x).1 = 0) : DFun Try.prog 6 [.agg (piD p), .agg (pcD x)] [] (.tup [.agg (piD (jo p x).2), .val (.int .i64 0)]) [] := by
 rcases gJ hp x with ⟨a, b, h1⟩ | ⟨a, b, c, ⟨d, f⟩, h1⟩ | ⟨e1, he, h1, _⟩
 ·have hq := yL (ZQ p hn hb hp x a b) (WV JB)
  rw [h1]
  have hl : (qax x.mn.toNat ([] : List Int)).length = x.mn.toNat := qaG
  unfold piD
  dsimp only
  rw [List.length_set, hl]
  exact hq
 ·have hq := yL (ZP p hn hb hp x a b c d f) (WV JB)
  rw [h1]
  unfold piD
  dsimp only
  rw [List.length_set]
  exact hq
 ·rw [h1] at h; exact absurd h he
theorem ZR {p : PiM} (hp : kZ p = true) (x : PcM) (h0 : (jo p x).1 = 0) (h : p.sn < x.sn) : pcB x = true ∧ (jo p x).2 = ⟨x.sn, x.mn, (qax x.mn.toNat []).set x.ix.toNat x.b⟩ := by
 rcases gJ hp x with ⟨a, _, h1⟩ | ⟨_, b, _, _, _⟩ | ⟨e1, he, h1, _⟩
 ·exact ⟨a, by rw [h1]⟩
 ·omega
 ·rw [h1] at h0; exact absurd h0 he
theorem U7 {p : PiM} (hp : kZ p = true) (x : PcM) (h0 : (jo p x).1 = 0) (h : ¬ p.sn < x.sn) : pcB x = true ∧ x.sn = p.sn ∧ x.mn = p.mn ∧ (∃ h : x.ix.toNat < p.ps.length, emp p.ps[x.ix.toNat] = true) ∧ (jo p x).2 = { p with ps := p.ps.set x.ix.toNat x.b } := by
 rcases gJ hp x with ⟨_, b, _⟩ | ⟨a, b, c, d, h1⟩ | ⟨e1, he, h1, _⟩
 ·omega
 ·exact ⟨a, b, c, d, by rw [h1]⟩
 ·rw [h1] at h0; exact absurd h0 he
theorem ZS {p : PiM} (hp : kZ p = true) (x : PcM) (h0 : ¬ (jo p x).1 = 0) : jo p x = ((jo p x).1, p) := by
 rcases gJ hp x with ⟨_, _, h1⟩ | ⟨_, _, _, _, h1⟩ | ⟨e1, he, h1, _⟩
 ·rw [h1] at h0; exact absurd rfl h0
 ·rw [h1] at h0; exact absurd rfl h0
 ·rw [h1]
end Go.Proofs.Ytofklkbfkoliiaa
namespace Go.Proofs.Ytofklkbfkoliiaa
set_option linter.unusedVariables false
set_option linter.unusedSimpArgs false
open Go.RowKit
attribute [local irreducible] tkN jP ky jo kZ
theorem wv : slE Try.prog 26 = some (35, 4, 48) := by kernel_rfl
theorem ZT (p : PiM) (hn : p.ps.length ≤ 5000) (hb : ∀ b ∈ p.ps, b.length ≤ 100000) (hp : kZ p = true) (l : List PcM) (hl : l.length ≤ 100000) : DFun Try.prog 11 [.agg (piD p), .slm 4 l.length (l.flatMap pcD)] [] (.tup [.agg [.val (.int .u64 (km l (p, 0)).1.sn), .val (.int .i64 (km l (p, 0)).1.mn), .arr 0], .val (.int .i64 ((km l (p, 0)).2 : Nat)), .val (.int .i64 0)]) [.arx 23 1 ((km l (p, 0)).1.ps).length (((km l (p, 0)).1.ps).flatMap fun b => [rwB b])] := by
 refine qn (N := 34) 0 (by kernel_rfl) Try.func11 rfl rfl rfl (by simp only [fr0, qal, qam]; exact rfl) rfl fun s0 hs0 => ?_
 refine qF rfl hs0 ?_
 refine zam 3 ?_
 refine zac ?_
 refine zaj rfl (qz 0 rfl (ev1 rfl) rfl) ?_
 refine zaj rfl (zao 1 rfl wu rfl) ?_
 refine zaa 1 rfl ?_
 refine zaj rfl (zao 2 rfl j4 rfl) ?_
 refine zab ?_
 refine qr (l0 := [_]) rfl rfl rfl rfl rfl hs0 ?_
 refine za rfl (qX rfl en (ec (ev1 rfl) en)) ?_
 refine zab ⟨_, _, _, 3, ev1 rfl, qaF hs0 (by decide), rfl, ?_⟩
 have hs1 : s0.M.length ≤ 3 := qaF hs0 (by decide)
 refine qE rfl hs0 ?_
 refine zag ?_
 refine zam 2 ?_
 refine zac ?_
 refine za rfl (qi rfl kJ (ev1 rfl) rfl rfl) ?_
 refine zaj rfl (zai [] [] [3, 4] rfl (ev1 rfl) (ec (ev1 rfl) en) rfl rfl (w5 p hn hb hp) rfl rfl rfl (by exact (wrc rfl (wrc (by first | exact rfl | exact kK (fun _ => rfl) | exact ko (qp (fun _ => rfl) _) | exact kp (fun _ => rfl) | exact kr (fun _ => rfl)) rfl))) rfl rfl) ?_
 refine zaa 1 rfl ?_
 refine zab ?_
 refine zah ?_
 refine zaa 1 rfl ?_
 refine za rfl (qX rfl (ec (ev1 rfl) en) en) ?_
 refine zaa 1 rfl ?_
 refine zab ?_
 refine zag ?_
 refine zah ?_
 refine zaa 1 rfl ?_
 refine za rfl (jA rfl wv (ev1 rfl)) ?_
 refine zaa 1 rfl ?_
 refine zab ?_
 refine qf ?_
 refine qY ⟨hs1, rfl⟩ (α := Nat) (fun k => [(5, .val (.int .i64 ((km (l.take k) (p, 0)).2 : Nat))), (18, .val (.int .i64 (k : Int)))]) [(4, _), (6, _), (7, _), (8, _), (16, _), (17, _)] (fun k => [(3, .mix 68 [.val (.int .u64 (km (l.take k) (p, 0)).1.sn), .val (.int .i64 (km (l.take k) (p, 0)).1.mn), .arr 4]), (4, .arx 23 1 ((km (l.take k) (p, 0)).1.ps).length (((km (l.take k) (p, 0)).1.ps).flatMap fun b => [rwB b]))]) [_, _, _, .hole, .hole] (fun k => k ≤ l.length) (fun k => l.length - k) 0 [0, 1, 2, 3, 4] (qaZ _) rfl ⟨rfl, rfl, rfl, rfl, rfl, rfl, trivial⟩ ⟨rfl, rfl, trivial⟩ ⟨rfl, rfl, rfl, rfl, qy rfl rfl (fun _ => rfl), trivial⟩ ?_
 intro k hx
 simp only [upd, zad, zaf, qas, qaw]
 have hk := hx
 obtain ⟨hqk, hqn⟩ := zX hp (l.take k) 0
 rw [qaN] at hqn
 refine zah ?_
 refine za rfl (qI rfl (ev1 rfl) (ev1 rfl)) ?_
 refine zab ?_
 refine zag ?_
 refine qv rfl (fun c1 => ?_) (fun c1 => ?_)
 ·try simp only [decide_eq_true_eq, decide_eq_false_iff_not, beq_iff_eq, bne_iff_ne, beq_eq_false_iff_ne, bne_eq_false_iff_eq, qau, qay, qan, qaA, qar, ne_eq, Decidable.not_not, qaO, qaP] at c1
  refine qd ?_
  refine zag ?_
  refine qf ?_
  refine zag ?_
  refine zam 1 ?_
  refine zac ?_
  refine za rfl (wg (k) (by decide) rfl wv (ev1 rfl) (ev1 rfl) (fun _ => rfl) (by omega) (fun _ => rfl)) ?_
  refine za rfl (wh rfl j5 (ev1 rfl) rfl rfl) ?_
  refine zaj rfl (zao 5 rfl Ke rfl) ?_
  refine qc rfl (kL rfl j5 (ev1 rfl) (ev1 rfl) rfl rfl rfl rfl) ?_
  refine zab ?_
  refine zag ?_
  by_cases h0 : (jo (km (l.take k) (p, 0)).1 l[k]).1 = 0
  ·by_cases h2 : (km (l.take k) (p, 0)).1.sn < l[k].sn
   ·obtain ⟨hx, hq2⟩ := ZR hqk l[k] h0 h2
    have hq1 : (km (l.take (k + 1)) (p, 0)).1 = (jo (km (l.take k) (p, 0)).1 l[k]).2 := by rw [jR _ _ (by omega)]
    rw [hq2] at hq1
    have hc1 : (km (l.take (k + 1)) (p, 0)).2 = (km (l.take k) (p, 0)).2 := by rw [jR _ _ (by omega)]; exact if_pos h0
    
    refine zam 1 ?_
    refine zac ?_
    refine zaa 1 rfl ?_
    refine za rfl (qi rfl j5 (ev1 rfl) rfl rfl) ?_
    refine zaj rfl (zai [3, 4] [] [6] rfl (ev1 rfl) (ec (ev1 rfl) en) rfl (by exact jx _ _ ⟨rfl, (by first | exact rfl | exact arx_fits rfl rfl (vwL_flat (fun _ => rfl) _) | exact kA rfl rfl (qp (fun _ => rfl) _) | exact qy rfl rfl (fun _ => rfl) | exact kB rfl rfl (fun _ => rfl)), trivial⟩) (try_n (km (l.take k) (p, 0)).1 l[k] hx h2) rfl rfl rfl (by exact (wrc rfl (wrc (by first | exact rfl | exact kK (fun _ => rfl) | exact ko (qp (fun _ => rfl) _) | exact kp (fun _ => rfl) | exact kr (fun _ => rfl)) (wrc (by first | exact rfl | exact kK (fun _ => rfl) | exact ko (qp (fun _ => rfl) _) | exact kp (fun _ => rfl) | exact kr (fun _ => rfl)) rfl)))) rfl rfl) ?_
    refine za rfl (ki rfl (ev1 rfl) (ev1 rfl)) ?_
    refine zab ?_
    refine qj rfl (rfl) ?_
    refine qd ?_
    refine zac ?_
    refine za rfl (qx rfl (ev1 rfl) (ev1 rfl) (fun _ => qat _ (by omega))) ?_
    refine zaa 1 rfl ?_
    refine zab ?_
    refine ⟨k + 1, [0, 1, 2, 3, 6], by omega, by simp only []; omega, rfl, ⟨by rw [hc1]; rfl, rfl, rfl, rfl, rfl, rfl, rfl, rfl, trivial⟩, ⟨rfl, rfl, rfl, by rw [hq1]; rfl, by rw [hq1]; exact qy (by simp) rfl (fun _ => rfl), trivial⟩⟩
   ·obtain ⟨hx, h3, h4, ⟨h5, h6⟩, hq2⟩ := U7 hqk l[k] h0 h2
    have hq1 : (km (l.take (k + 1)) (p, 0)).1 = (jo (km (l.take k) (p, 0)).1 l[k]).2 := by rw [jR _ _ (by omega)]
    rw [hq2] at hq1
    have hc1 : (km (l.take (k + 1)) (p, 0)).2 = (km (l.take k) (p, 0)).2 := by rw [jR _ _ (by omega)]; exact if_pos h0
    
    refine zac ?_
    refine zaa 1 rfl ?_
    refine za rfl (qi rfl j5 (ev1 rfl) rfl rfl) ?_
    refine zaj rfl (zai [3, 4] [] [] rfl (ev1 rfl) (ec (ev1 rfl) en) rfl (by exact jx _ _ ⟨rfl, (by first | exact rfl | exact arx_fits rfl rfl (vwL_flat (fun _ => rfl) _) | exact kA rfl rfl (qp (fun _ => rfl) _) | exact qy rfl rfl (fun _ => rfl) | exact kB rfl rfl (fun _ => rfl)), trivial⟩) (try_s (km (l.take k) (p, 0)).1 l[k] hx h3 h4 h5 h6) rfl rfl rfl (by exact (wrc rfl (wrc (by first | exact rfl | exact kK (fun _ => rfl) | exact ko (qp (fun _ => rfl) _) | exact kp (fun _ => rfl) | exact kr (fun _ => rfl)) rfl))) rfl rfl) ?_
    refine za rfl (ki rfl (ev1 rfl) (ev1 rfl)) ?_
    refine zab ?_
    refine qj rfl (rfl) ?_
    refine qd ?_
    refine zac ?_
    refine za rfl (qx rfl (ev1 rfl) (ev1 rfl) (fun _ => qat _ (by omega))) ?_
    refine zaa 1 rfl ?_
    refine zab ?_
    refine ⟨k + 1, [0, 1, 2, 3, 4], by omega, by simp only []; omega, rfl, ⟨by rw [hc1]; rfl, rfl, rfl, rfl, rfl, rfl, rfl, rfl, trivial⟩, ⟨rfl, rfl, rfl, by rw [hq1]; rfl, by rw [hq1]; exact qy (by simp) rfl (fun _ => rfl), trivial⟩⟩
  ·have hpe := ZS hqk l[k] h0
   obtain ⟨e, he⟩ : ∃ e, (jo (km (l.take k) (p, 0)).1 l[k]).1 = e := ⟨_, rfl⟩
   rw [he] at hpe h0
   have hq1 : (km (l.take (k + 1)) (p, 0)).1 = (jo (km (l.take k) (p, 0)).1 l[k]).2 := by rw [jR _ _ (by omega)]
   rw [hpe] at hq1
   have hc1 : (km (l.take (k + 1)) (p, 0)).2 = (km (l.take k) (p, 0)).2 + 1 := by rw [jR _ _ (by omega)]; exact if_neg (by rw [he]; exact h0)
   refine zac ?_
   refine zaa 1 rfl ?_
   refine za rfl (qi rfl j5 (ev1 rfl) rfl rfl) ?_
   refine zaj rfl (zai [3, 4] [] [] rfl (ev1 rfl) (ec (ev1 rfl) en) rfl (by exact jx _ _ ⟨rfl, (by first | exact rfl | exact arx_fits rfl rfl (vwL_flat (fun _ => rfl) _) | exact kA rfl rfl (qp (fun _ => rfl) _) | exact qy rfl rfl (fun _ => rfl) | exact kB rfl rfl (fun _ => rfl)), trivial⟩) (try_e (km (l.take k) (p, 0)).1 l[k] hqk e h0 hpe) rfl rfl rfl (by exact (wrc rfl (wrc (by first | exact rfl | exact kK (fun _ => rfl) | exact ko (qp (fun _ => rfl) _) | exact kp (fun _ => rfl) | exact kr (fun _ => rfl)) rfl))) rfl rfl) ?_
   refine za rfl (ki rfl (ev1 rfl) (ev1 rfl)) ?_
   refine zab ?_
   refine qR rfl (by simpa using h0) ?_
   refine zac ?_
   refine zaa 1 rfl ?_
   refine za rfl (qx rfl (ev1 rfl) (ev1 rfl) (fun _ => qat _ (by omega))) ?_
   refine zaa 1 rfl ?_
   refine zab ?_
   refine zac ?_
   refine za rfl (qx rfl (ev1 rfl) (ev1 rfl) (fun _ => qat _ (by omega))) ?_
   refine zaa 1 rfl ?_
   refine zab ?_
   refine ⟨k + 1, [0, 1, 2, 3, 4], by omega, by simp only []; omega, rfl, ⟨by rw [hc1]; rfl, rfl, rfl, rfl, rfl, rfl, rfl, rfl, trivial⟩, ⟨rfl, rfl, rfl, by rw [hq1]; rfl, by rw [hq1]; exact qy (by simp) rfl (fun _ => rfl), trivial⟩⟩
 ·try simp only [decide_eq_true_eq, decide_eq_false_iff_not, beq_iff_eq, bne_iff_ne, beq_eq_false_iff_ne, bne_eq_false_iff_eq, qau, qay, qan, qaA, qar, ne_eq, Decidable.not_not, qaO, qaP] at c1
  refine qQ ?_
  refine zag ?_
  obtain rfl : k = l.length := by omega
  rw [List.take_length]
  refine zac ?_
  refine zaa 1 rfl ?_
  refine za rfl (qt rfl (ev1 rfl) (fun s v h => by cases h; exact ⟨_, rfl⟩)) ?_
  refine za rfl (qa rfl je (ev1 rfl)) ?_
  refine za rfl (qi rfl kJ (ev1 rfl) rfl rfl) ?_
  refine zaa 1 rfl ?_
  refine qc rfl (kL rfl kJ (ev1 rfl) (ev1 rfl) rfl rfl rfl rfl) ?_
  refine zaa 1 rfl ?_
  refine qc rfl (qG rfl qU (ev1 rfl) (ev1 rfl) rfl) ?_
  refine zab ?_
  refine qe ?_
  refine jO (kH [2] [] rfl rfl (GV _) rfl rfl rfl rfl rfl) ?_
  refine kc [4] (rs3 rfl (wB kJ rfl rfl rfl) (qO rfl) (jB qU rfl rfl rfl)) rfl rfl ?_ ⟨?_, trivial⟩
  rfl
  exact qy rfl rfl (fun _ => rfl)
theorem QT (p : PiM) (hp : kZ p = true) (l : List PcM) (hl : l.length ≤ 100000) : DFun Try.prog 11 [.agg (piD p), .slm 4 l.length (l.flatMap pcD)] [] (.tup [.agg (piD (km l (p, 0)).1), .val (.int .i64 ((km l (p, 0)).2 : Nat)), .val (.int .i64 0)]) [] := yL (ZT p (by have := (yC hp).1; omega) (fun b hb => by have := (yC hp).2 b hb; omega) hp l hl) (WW JB)
def gE (p : PiM) : Int × Bool := if noB p = true then (0, true) else if jK p.ps 0 < 0 then (0, false) else if kZ p = true then (jK p.ps 0, true) else (0, false)
def gK (p : PiM) : Bool := !((noB p || decide (0 ≤ jK p.ps 0)) || !(kZ p))
theorem YQ (p : PiM) (hn : p.ps.length ≤ 5000) : DFun Try.prog 8 [.agg (piD p)] [] (.tup [.val (.int .i64 (gE p).1), .val (.bool (gE p).2)]) [] := by
 refine zan (N := 17) 0 (by kernel_rfl) Try.func8 rfl rfl rfl (by simp only [fr0, qal, qam]; exact rfl) rfl fun s0 hs0 => ?_
 refine zag ?_
 refine zam 1 ?_
 refine zac ?_
 refine zaj rfl (qz 0 rfl (ev1 rfl) rfl) ?_
 refine zaa 2 rfl ?_
 refine zab ?_
 refine zag ?_
 refine zah ?_
 refine za rfl (qi rfl kJ (ev1 rfl) rfl rfl) ?_
 refine za rfl (zai [] [] [] rfl (ev1 rfl) (ec (ev1 rfl) en) rfl rfl (wn _) rfl rfl rfl rfl rfl rfl) ?_
 refine zab ?_
 refine qv rfl (fun c1 => ?_) (fun c1 => ?_)
 ·refine zah ?_
  refine zaa 2 rfl ?_
  refine zab ?_
  refine qe ?_
  refine qH (rs2 rfl (qO rfl) (qO rfl)) rfl ?_
  have h : gE p = (0, true) := by unfold gE; rw [if_pos c1]
  rw [h]
 ·refine qd ?_
  refine zah ?_
  refine za rfl (qi rfl kJ (ev1 rfl) rfl rfl) ?_
  refine za rfl (zai [] [] [] rfl (ev1 rfl) (ec (ev1 rfl) en) rfl rfl (xd _) rfl rfl rfl rfl rfl rfl) ?_
  refine zaa 1 rfl ?_
  refine zab ?_
  refine zag ?_
  refine zah ?_
  refine zaa 1 rfl ?_
  refine za rfl (qI rfl (ev1 rfl) (ev1 rfl)) ?_
  refine zaa 1 rfl ?_
  refine zak (qm rfl rfl rfl) rfl rfl rfl (qi rfl kJ (ev1 rfl) rfl rfl) ?_
  refine zak (qm rfl rfl rfl) rfl rfl rfl (zai [] [] [] rfl (ev1 rfl) (ec (ev2 rfl) en) rfl rfl (zV p hn) rfl rfl rfl rfl rfl rfl) ?_
  refine zak (qm rfl rfl rfl) rfl rfl rfl (ki rfl (ev2 rfl) (ev1 rfl)) ?_
  refine za rfl (kC rfl (ev1 rfl) (ev3 rfl id)) ?_
  refine zab ?_
  refine qv rfl (fun c2 => ?_) (fun c2 => ?_)
  ·refine zah ?_
   refine zaa 2 rfl ?_
   refine zab ?_
   refine qe ?_
   refine qH (rs2 rfl (qO rfl) (qO rfl)) rfl ?_
   have h : gE p = (0, false) := by
    unfold gE
    rw [if_neg (by rw [c1]; decide)]
    rw [y3 _ (by decide), qaA, decide_eq_true_eq] at c2
    rcases c2 with c2 | c2
    ·rw [if_pos c2]
    ·rw [if_neg (show ¬ kZ p = true by simpa using c2)]; split <;> rfl
   rw [h]
  ·refine qd ?_
   refine zah ?_
   refine zaa 3 rfl ?_
   refine zab ?_
   refine qe ?_
   refine qH (rs2 rfl (qO rfl) (qO rfl)) rfl ?_
   have h : gE p = (jK p.ps 0, true) := by
    unfold gE
    rw [y3 _ (by decide), qar, decide_eq_false_iff_not] at c2
    rw [if_neg (by rw [c1]; decide), if_neg c2.1, if_pos (by simpa using c2.2)]
   rw [h]
theorem QU (p : PiM) (hn : p.ps.length ≤ 5000) (hw : gK p = false) : DFun Try.prog 9 [.agg (piD p)] [] (.tup [.val (.slice none 0 0), .val (.bool false)]) [] := by
 refine zan (N := 19) 0 (by kernel_rfl) Try.func9 rfl rfl rfl (by simp only [fr0, qal, qam]; exact rfl) rfl fun s0 hs0 => ?_
 refine zag ?_
 refine zam 1 ?_
 refine zac ?_
 refine zaj rfl (qz 0 rfl (ev1 rfl) rfl) ?_
 refine zaa 2 rfl ?_
 refine zab ?_
 refine zag ?_
 refine zah ?_
 refine za rfl (qi rfl kJ (ev1 rfl) rfl rfl) ?_
 refine za rfl (zai [] [] [] rfl (ev1 rfl) (ec (ev1 rfl) en) rfl rfl (wn _) rfl rfl rfl rfl rfl rfl) ?_
 refine zaa 1 rfl ?_
 refine zak (qm rfl rfl rfl) rfl rfl rfl (qi rfl kJ (ev1 rfl) rfl rfl) ?_
 refine zak (qm rfl rfl rfl) rfl rfl rfl (zai [] [] [] rfl (ev1 rfl) (ec (ev2 rfl) en) rfl rfl (xd _) rfl rfl rfl rfl rfl rfl) ?_
 refine zak (qm rfl rfl rfl) rfl rfl rfl (gi rfl (ev2 rfl) (ev1 rfl)) ?_
 refine za rfl (kC rfl (ev1 rfl) (ev3 rfl id)) ?_
 refine zaa 1 rfl ?_
 refine zak (qm rfl rfl rfl) rfl rfl rfl (qi rfl kJ (ev1 rfl) rfl rfl) ?_
 refine zak (qm rfl rfl rfl) rfl rfl rfl (zai [] [] [] rfl (ev1 rfl) (ec (ev2 rfl) en) rfl rfl (zV p hn) rfl rfl rfl rfl rfl rfl) ?_
 refine zak (qm rfl rfl rfl) rfl rfl rfl (ki rfl (ev2 rfl) (ev1 rfl)) ?_
 refine za rfl (kC rfl (ev1 rfl) (ev3 rfl id)) ?_
 refine zab ?_
 refine qR rfl (by rw [y3 _ (by decide)]; unfold gK at hw; rw [qay] at hw; exact hw) ?_
 refine zah ?_
 refine zaa 2 rfl ?_
 refine zab ?_
 refine qe ?_
 refine qH (rs2 rfl (qO rfl) (qO rfl)) rfl ?_
 rfl
theorem QV (p : PiM) (hn : p.ps.length ≤ 5000) (hw : gK p = true) (hf : p.ps.flatten.length ≤ 100000000) : DFun Try.prog 9 [.agg (piD p)] [] (.tup [.slf 1 (p.ps.flatten).length ((p.ps.flatten).flatMap uc8), .val (.bool true)]) [] := by
 refine zan (N := 19) 0 (by kernel_rfl) Try.func9 rfl rfl rfl (by simp only [fr0, qal, qam]; exact rfl) rfl fun s0 hs0 => ?_
 refine zag ?_
 refine zam 1 ?_
 refine zac ?_
 refine zaj rfl (qz 0 rfl (ev1 rfl) rfl) ?_
 refine zaa 2 rfl ?_
 refine zab ?_
 refine zag ?_
 refine zah ?_
 refine za rfl (qi rfl kJ (ev1 rfl) rfl rfl) ?_
 refine za rfl (zai [] [] [] rfl (ev1 rfl) (ec (ev1 rfl) en) rfl rfl (wn _) rfl rfl rfl rfl rfl rfl) ?_
 refine zaa 1 rfl ?_
 refine zak (qm rfl rfl rfl) rfl rfl rfl (qi rfl kJ (ev1 rfl) rfl rfl) ?_
 refine zak (qm rfl rfl rfl) rfl rfl rfl (zai [] [] [] rfl (ev1 rfl) (ec (ev2 rfl) en) rfl rfl (xd _) rfl rfl rfl rfl rfl rfl) ?_
 refine zak (qm rfl rfl rfl) rfl rfl rfl (gi rfl (ev2 rfl) (ev1 rfl)) ?_
 refine za rfl (kC rfl (ev1 rfl) (ev3 rfl id)) ?_
 refine zaa 1 rfl ?_
 refine zak (qm rfl rfl rfl) rfl rfl rfl (qi rfl kJ (ev1 rfl) rfl rfl) ?_
 refine zak (qm rfl rfl rfl) rfl rfl rfl (zai [] [] [] rfl (ev1 rfl) (ec (ev2 rfl) en) rfl rfl (zV p hn) rfl rfl rfl rfl rfl rfl) ?_
 refine zak (qm rfl rfl rfl) rfl rfl rfl (ki rfl (ev2 rfl) (ev1 rfl)) ?_
 refine za rfl (kC rfl (ev1 rfl) (ev3 rfl id)) ?_
 refine zab ?_
 refine qj rfl (by rw [y3 _ (by decide)]; unfold gK at hw; rw [qau] at hw; exact hw) ?_
 refine qd ?_
 refine zah ?_
 refine za rfl (qa rfl gI (ev1 rfl)) ?_
 refine za rfl (qb rfl xb (ev1 rfl) rfl rfl) ?_
 refine za rfl (zai [] [] [] rfl (ev1 rfl) (ec (ev1 rfl) en) rfl rfl (GS p.ps _ _ rfl rfl hf) rfl rfl rfl rfl rfl rfl) ?_
 refine zaa 2 rfl ?_
 refine zab ?_
 refine qe ?_
 refine qH (rs2 rfl (qO rfl) (qO rfl)) rfl ?_
 rfl
end Go.Proofs.Ytofklkbfkoliiaa
namespace Go.Proofs.Ytofklkbfkoliiaa
set_option linter.unusedVariables false
set_option linter.unusedSimpArgs false
open Go.RowKit
attribute [local irreducible] tkN jP ky
theorem tb26 : tyB Try.prog 26 = some (false, 1) := by kernel_rfl
theorem zr26 : zrC Try.prog 26 = some [.slice none 0 0] := by kernel_rfl
def mnN (b : List Int) : Nat := (b.length + 255) / 256
def jk (b : List Int) (k : Nat) : List Int := (b.drop (k * 256)).take (min b.length ((k + 1) * 256) - k * 256)
theorem KV (b : List Int) (k : Nat) : (jk b k).length ≤ 256 := by
 unfold jk
 rw [qaN]
 omega
def pcK (sn : Int) (b : List Int) (k : Nat) : PcM := ⟨sn, k, mnN b, jk b k⟩
def y4 (sn : Int) (b : List Int) : List PcM := (qa3 (mnN b)).map (pcK sn b)
theorem U8 (sn : Int) (b : List Int) (k : Nat) : (qa3 (k + 1)).map (pcK sn b) = (qa3 k).map (pcK sn b) ++ [pcK sn b k] := by
 rw [List.range_succ, List.map_append]; rfl
theorem HC (l : List PcM) : D.nlL (l.flatMap pcD) = true := by
 induction l with
 | nil => rfl
 | cons b r ih => rw [qaD]; exact ih
theorem QW {σ : List Nat} {V : Nat → Bool} {M : List Blk} {T : TypeId} {n n' : Nat} {l l' : List PcM} (hn : n = n') (hl : l = l') : (vwL σ V M (l.flatMap pcD)).map (Blk.arx T 4 n) = some (Blk.arx T 4 n' (l'.flatMap pcD)) := kB hn hl (fun _ => rfl)
theorem pcs_d (sn : Int) (b : List Int) (h1 : snB sn = true) (h2 : 0 < b.length) (h3 : b.length ≤ 16384) : DFun Try.prog 17 [.val (.int .u64 sn), .slf 1 (b).length ((b).flatMap uc8)] [] (.fn (.func 40) [] [.loc 0 0, .loc 1 0, .loc 2 0]) [.flat 3 [.int .i64 (mnN b : Nat)], .mix 23 [.slf 1 (b).length ((b).flatMap uc8)], .flat 22 [.int .u64 sn]] := by
 refine zan (N := 28) 0 (by kernel_rfl) Try.func17 rfl rfl rfl (by simp only [fr0, qal, qam]; exact rfl) rfl fun s0 hs0 => ?_
 refine kP (t := 1) rfl fun hl1 hL1 => ?_
 refine zag ?_
 refine zam 2 ?_
 refine zac ?_
 refine zaj rfl (vb 0 rfl (ev1 rfl) rfl) ?_
 refine zaj rfl (jV 1 rfl (ev1 rfl) (fun s v h => by cases h <;> rfl) rfl) ?_
 refine zaa 1 rfl ?_
 refine zab ?_
 refine zah ?_
 refine za rfl (qq rfl kz (ev1 rfl) rfl rfl) ?_
 refine za rfl (gi rfl (ev1 rfl) (ev1 rfl)) ?_
 refine zaa 1 rfl ?_
 refine zak (qC rfl rfl rfl) rfl rfl rfl (qq rfl kz (ev1 rfl) rfl rfl) ?_
 refine zak (qC rfl rfl rfl) rfl rfl rfl (yK rfl (ev2 rfl) (ev1 rfl)) ?_
 refine za rfl (q9 rfl (ev1 rfl) (ev3 rfl id)) ?_
 refine zaa 1 rfl ?_
 refine zak (qC rfl rfl rfl) rfl rfl rfl (qb rfl kS (ev1 rfl) rfl rfl) ?_
 refine zak (qC rfl rfl rfl) rfl rfl rfl (qJ rfl qK (ev2 rfl)) ?_
 refine zak (qC rfl rfl rfl) rfl rfl rfl (kD rfl (ev2 rfl) (ev1 rfl)) ?_
 refine za rfl (q9 rfl (ev1 rfl) (ev3 rfl id)) ?_
 refine za rfl (zai [] [] [] rfl (ev1 rfl) (ec (ev1 rfl) (ec (ev1 rfl) en)) rfl rfl (kg _ _ (by unfold snB at h1; rw [h1, decide_eq_true (by omega)]; rfl)) rfl rfl rfl rfl rfl rfl) ?_
 refine zab ?_
 refine zah ?_
 refine za rfl (qb rfl kS (ev1 rfl) rfl rfl) ?_
 refine za rfl (qJ rfl qK (ev1 rfl)) ?_
 refine za rfl (yK rfl (ev1 rfl) (ev1 rfl)) ?_
 refine za rfl (zai [] [] [] rfl (ev1 rfl) (ec (ev1 rfl) (ec (ev1 rfl) en)) rfl rfl (kg _ _ (decide_eq_true (by omega))) rfl rfl rfl rfl rfl rfl) ?_
 refine zab ?_
 refine zag ?_
 refine zam 1 ?_
 refine zac ?_
 refine za rfl (qb rfl kS (ev1 rfl) rfl rfl) ?_
 refine za rfl (qJ rfl qK (ev1 rfl)) ?_
 refine za rfl (qx rfl (ev1 rfl) (ev1 rfl) (fun _ => qat _ (by omega))) ?_
 refine za rfl (jy rfl (ev1 rfl) (ev1 rfl) (fun _ => qat _ (by omega))) ?_
 refine za rfl ((XC rfl (ev1 rfl) (ev1 rfl) (fun _ => ⟨by omega, by omega, qat _ (by omega)⟩)).cast (d' := .val (.int .i64 (mnN b : Nat))) (by unfold mnN; simp; omega)) ?_
 refine zaj rfl (zao 2 rfl zr3 rfl) ?_
 refine qc rfl (qG rfl tb3 (ev1 rfl) (ev1 rfl) rfl) ?_
 refine zab ?_
 refine zah ?_
 refine za rfl (qX rfl en (ec (ev1 rfl) (ec (ev1 rfl) (ec (ev1 rfl) en)))) ?_
 refine zaa 1 rfl ?_
 refine zab ?_
 refine qe ?_
 refine kc [2, 1, 0] (rs1 rfl (qO rfl)) rfl rfl ?_ ⟨rfl, rfl, rfl, trivial⟩
 rfl
theorem A6 (sn : Int) (b : List Int) (h1 : (snB sn && decide ((0 : Int) < (b.length : Int))) = false) : DPan Try.prog 17 [.val (.int .u64 sn), .slf 1 (b).length ((b).flatMap uc8)] [] (.ifc 88 (.val (.agg #[.int .i64 2]))) [] := by
 refine zan (N := 28) 0 (by kernel_rfl) Try.func17 rfl rfl rfl (by simp only [fr0, qal, qam]; exact rfl) rfl fun s0 hs0 => ?_
 refine kP (t := 1) rfl fun hl1 hL1 => ?_
 refine zag ?_
 refine zam 2 ?_
 refine zac ?_
 refine zaj rfl (vb 0 rfl (ev1 rfl) rfl) ?_
 refine zaj rfl (jV 1 rfl (ev1 rfl) (fun s v h => by cases h <;> rfl) rfl) ?_
 refine zaa 1 rfl ?_
 refine zab ?_
 refine zah ?_
 refine za rfl (qq rfl kz (ev1 rfl) rfl rfl) ?_
 refine za rfl (gi rfl (ev1 rfl) (ev1 rfl)) ?_
 refine zaa 1 rfl ?_
 refine zak (qC rfl rfl rfl) rfl rfl rfl (qq rfl kz (ev1 rfl) rfl rfl) ?_
 refine zak (qC rfl rfl rfl) rfl rfl rfl (yK rfl (ev2 rfl) (ev1 rfl)) ?_
 refine za rfl (q9 rfl (ev1 rfl) (ev3 rfl id)) ?_
 refine zaa 1 rfl ?_
 refine zak (qC rfl rfl rfl) rfl rfl rfl (qb rfl kS (ev1 rfl) rfl rfl) ?_
 refine zak (qC rfl rfl rfl) rfl rfl rfl (qJ rfl qK (ev2 rfl)) ?_
 refine zak (qC rfl rfl rfl) rfl rfl rfl (kD rfl (ev2 rfl) (ev1 rfl)) ?_
 refine za rfl (q9 rfl (ev1 rfl) (ev3 rfl id)) ?_
 refine ke rfl (qA [] [] [] rfl (ev1 rfl) (ec (ev1 rfl) (ec (ev1 rfl) en)) rfl rfl (j9 _ _ (h1)) rfl rfl rfl rfl rfl rfl) rfl ?_
 refine JV rfl ?_
 rfl
theorem A7 (sn : Int) (b : List Int) (h1 : snB sn = true) (h3 : 16384 < b.length) : DPan Try.prog 17 [.val (.int .u64 sn), .slf 1 (b).length ((b).flatMap uc8)] [] (.ifc 88 (.val (.agg #[.int .i64 3]))) [] := by
 refine zan (N := 28) 0 (by kernel_rfl) Try.func17 rfl rfl rfl (by simp only [fr0, qal, qam]; exact rfl) rfl fun s0 hs0 => ?_
 refine kP (t := 1) rfl fun hl1 hL1 => ?_
 refine zag ?_
 refine zam 2 ?_
 refine zac ?_
 refine zaj rfl (vb 0 rfl (ev1 rfl) rfl) ?_
 refine zaj rfl (jV 1 rfl (ev1 rfl) (fun s v h => by cases h <;> rfl) rfl) ?_
 refine zaa 1 rfl ?_
 refine zab ?_
 refine zah ?_
 refine za rfl (qq rfl kz (ev1 rfl) rfl rfl) ?_
 refine za rfl (gi rfl (ev1 rfl) (ev1 rfl)) ?_
 refine zaa 1 rfl ?_
 refine zak (qC rfl rfl rfl) rfl rfl rfl (qq rfl kz (ev1 rfl) rfl rfl) ?_
 refine zak (qC rfl rfl rfl) rfl rfl rfl (yK rfl (ev2 rfl) (ev1 rfl)) ?_
 refine za rfl (q9 rfl (ev1 rfl) (ev3 rfl id)) ?_
 refine zaa 1 rfl ?_
 refine zak (qC rfl rfl rfl) rfl rfl rfl (qb rfl kS (ev1 rfl) rfl rfl) ?_
 refine zak (qC rfl rfl rfl) rfl rfl rfl (qJ rfl qK (ev2 rfl)) ?_
 refine zak (qC rfl rfl rfl) rfl rfl rfl (kD rfl (ev2 rfl) (ev1 rfl)) ?_
 refine za rfl (q9 rfl (ev1 rfl) (ev3 rfl id)) ?_
 refine za rfl (zai [] [] [] rfl (ev1 rfl) (ec (ev1 rfl) (ec (ev1 rfl) en)) rfl rfl (kg _ _ (by unfold snB at h1; rw [h1, decide_eq_true (by omega)]; rfl)) rfl rfl rfl rfl rfl rfl) ?_
 refine zab ?_
 refine zah ?_
 refine za rfl (qb rfl kS (ev1 rfl) rfl rfl) ?_
 refine za rfl (qJ rfl qK (ev1 rfl)) ?_
 refine za rfl (yK rfl (ev1 rfl) (ev1 rfl)) ?_
 refine ke rfl (qA [] [] [] rfl (ev1 rfl) (ec (ev1 rfl) (ec (ev1 rfl) en)) rfl rfl (j9 _ _ (decide_eq_false (by omega))) rfl rfl rfl rfl rfl rfl) rfl ?_
 refine JV rfl ?_
 rfl
noncomputable def cutA : Code := rfA (pth [1, 1, 1, 0, 1, 0] (vT Try.f5))
noncomputable def cutB : Code := rfB (pth [1, 1, 1, 0, 1, 0] (vT Try.f5))
theorem GY (R : List PcM) (x : PcM) (hR : R.length ≤ 1000) : DRound Try.prog 0 [.agg (pcD x)] [.lp none 18 [(6, .loc 1 0)] #[12] cutA cutB .ready none, .mix 26 [.arr 2], .arx 35 4 (R).length ((R).flatMap pcD)] true [.lp none 18 [(6, .loc 1 0)] #[12] cutA cutB .ready none, .mix 26 [.arr 3], .gone, .arx 35 4 ((R ++ [x])).length (((R ++ [x])).flatMap pcD)] := by
 refine yo 3 rfl rfl (by simp) rfl rfl fun s0 hs0 => ?_
 refine zam 1 ?_
 refine zac ?_
 refine zaj rfl (zao 3 rfl Ke rfl) ?_
 refine qc rfl (kL rfl j5 (ev1 rfl) (ev1 rfl) rfl rfl rfl rfl) ?_
 refine zab ?_
 refine ⟨rfl, ?_⟩
 simp only [zad, zaf]
 refine qf ?_
 refine zam 1 ?_
 refine zac ?_
 refine za rfl (qb rfl tb26 (ev1 rfl) rfl rfl) ?_
 refine za rfl (qi rfl j5 (ev1 rfl) rfl rfl) ?_
 refine za rfl (Yo (ps := [(0, .tmp 14)]) rfl wv Ke rfl (ec (ev1 rfl) en) rfl rfl rfl (by rfl) rfl (by decide) (by decide)) ?_
 refine zaj rfl (Qj (j := 4) rfl wv Ke rfl (ev1 rfl) (ev1 rfl) rfl rfl (rfl) (fun _ => ⟨by omega, by omega⟩)) ?_
 refine qc rfl (kF rfl tb26 (ev1 rfl) (ev1 rfl) (fun s v h => by cases h <;> exact ⟨rfl, rfl⟩) rfl (by first | decide | exact qaq rfl | simp)) ?_
 refine zab ?_
 refine ⟨rfl, rfl, [0, 1, 2, 4], rfl, ⟨rfl, rfl, rfl, kA (by simp) (by rw [List.flatMap_append]; rfl) (HC _), trivial⟩⟩
theorem A8 (sn : Int) (b : List Int) (h2 : 0 < b.length) (h3 : b.length ≤ 16384) : DFun Try.prog 40 [.yld 0, .loc 3 0, .loc 4 0, .loc 5 0] [.lp none 18 [(6, .loc 1 0)] #[12] cutA cutB .ready none, .mix 26 [.arr 2], .arx 35 4 (([] : List PcM)).length ((([] : List PcM)).flatMap pcD), .flat 3 [.int .i64 (mnN b : Nat)], .mix 23 [.slf 1 (b).length ((b).flatMap uc8)], .flat 22 [.int .u64 sn]] (.tup []) [.lp none 18 [(6, .loc 1 0)] #[12] cutA cutB .ready none, .mix 26 [.arr 6], .gone, .flat 3 [.int .i64 (mnN b : Nat)], .mix 23 [.slf 1 (b).length ((b).flatMap uc8)], .flat 22 [.int .u64 sn], .arx 35 4 ((y4 sn b)).length (((y4 sn b)).flatMap pcD)] := by
 have hmn : mnN b = (b.length + 255) / 256 := rfl
 refine zan (N := 34) 6 (by kernel_rfl) Try.func40 rfl rfl rfl (by simp only [fr0, qal, qam]; exact rfl) rfl fun s0 hs0 => ?_
 refine zah ?_
 refine za rfl (qq rfl tb3 (ev1 rfl) rfl rfl) ?_
 refine zaa 1 rfl ?_
 refine zab ?_
 refine qf ?_
 refine yV (kM ?_)
 refine zah ?_
 refine za rfl (qI rfl (ev1 rfl) (ev1 rfl)) ?_
 refine zab ?_
 refine zag ?_
 refine qR rfl (by simp; omega) ?_
 refine qd ?_
 refine zag ?_
 refine qf ?_
 refine zah ?_
 refine zaa 2 rfl ?_
 refine zab ?_
 refine zag ?_
 refine qk [([], []), ([], []), ([4], []), ([], []), ([], []), ([], []), ([], []), ([], []), ([], []), ([], [])] qW (by kernel_rfl) ?_
 refine zae rfl rfl (zal (.inl rfl) (ev1 rfl)) ?_
 refine zae rfl rfl (yc rfl (ev1 rfl) (ev1 rfl) (fun _ => qat _ (by omega))) ?_
 refine zae rfl rfl (qb rfl kS (ev1 rfl) rfl rfl) ?_
 refine zae rfl rfl (qJ rfl qK (ev1 rfl)) ?_
 refine zae rfl rfl (zal (.inl rfl) (ev1 rfl)) ?_
 refine zae rfl rfl (qx rfl (ev1 rfl) (ev1 rfl) (fun _ => qat _ (by omega))) ?_
 refine zae rfl rfl (yc rfl (ev1 rfl) (ev1 rfl) (fun _ => qat _ (by omega))) ?_
 refine zae rfl rfl (zl rfl (ev1 rfl) (ev1 rfl)) ?_
 refine zae rfl rfl (zal (.inr rfl) (ev1 rfl)) ?_
 refine zae rfl rfl (zal (.inr rfl) (ev1 rfl)) ?_
 refine qu ?_
 refine zag ?_
 refine zam 1 ?_
 refine qk [([], []), ([5], []), ([], []), ([3], []), ([4], []), ([], []), ([], []), ([], []), ([], []), ([], []), ([], []), ([0, 1, 2, 6], [0, 1, 2, 6]), ([], [])] qW (by kernel_rfl) ?_
 refine zae rfl rfl (zal (.inl rfl) (ev1 rfl)) ?_
 refine zae rfl rfl (qq rfl kz (ev1 rfl) rfl rfl) ?_
 refine zae rfl rfl (zal (.inl rfl) (ev1 rfl)) ?_
 refine zae rfl rfl (qq rfl tb3 (ev1 rfl) rfl rfl) ?_
 refine zae rfl rfl (qb rfl kS (ev1 rfl) rfl rfl) ?_
 refine zae rfl rfl (zal (.inl rfl) (ev1 rfl)) ?_
 refine zae rfl rfl (zal (.inl rfl) (ev1 rfl)) ?_
 refine zae rfl rfl (zal (.inl rfl) (ev1 rfl)) ?_
 refine zae rfl rfl (xN (i := 0 * 256) (j := min b.length ((0 + 1) * 256)) rfl qK (ev1 rfl) (ev1 rfl) (ev1 rfl) (ev1 rfl) (fun hp => by first | omega | (simp at hp; omega)) (fun hp => by first | omega | (simp at hp; omega)) (fun hp => by first | omega | (simp at hp; omega)) (fun hp => by first | omega | (simp at hp; omega)) (fun _ => rfl)) ?_
 refine zae rfl rfl (zai [] [] [] rfl (ev1 rfl) (ec (ev1 rfl) en) rfl rfl (y0 (jk b 0) (by have := KV b 0; omega)) rfl rfl rfl rfl rfl rfl) ?_
 refine zae rfl rfl (jW (ps := [(0, .tmp 21), (1, .tmp 22), (2, .tmp 23), (3, .tmp 29)]) rfl fl35 Ke (ec (ev1 rfl) (ec (ev1 rfl) (ec (ev1 rfl) (ec (ev1 rfl) en)))) rfl rfl rfl) ?_
 refine yw rfl rfl (J0 (i := 0) [0, 1, 2] [] [6] rfl (ev1 rfl) (ec (ev1 rfl) en) rfl rfl (by exact jx _ _ ⟨rfl, rfl, (by first | exact rfl | exact arx_fits rfl rfl (vwL_flat (fun _ => rfl) _) | exact kA rfl rfl (qp (fun _ => rfl) _) | exact qy rfl rfl (fun _ => rfl) | exact kB rfl rfl (fun _ => rfl)), trivial⟩) (GY [] (pcK sn b 0) (by simp; try omega)) rfl rfl rfl (by exact (wrc rfl (wrc rfl (wrc rfl (wrc (by first | exact rfl | exact kK (fun _ => rfl) | exact ko (qp (fun _ => rfl) _) | exact kp (fun _ => rfl) | exact kr (fun _ => rfl)) rfl))))) rfl) rfl (by simp only [upd, zad, zaf]; exact rfl) ?_
 refine zae rfl rfl (kX rfl (ev1 rfl)) ?_
 refine qu ?_
 refine qj rfl (rfl) ?_
 refine qd ?_
 refine zac ?_
 refine za rfl (qx rfl (ev1 rfl) (ev1 rfl) (fun _ => qat _ (by omega))) ?_
 refine zaa 1 rfl ?_
 refine zab ?_
 refine HW ⟨hs0, rfl⟩ (α := Nat) (fun k => [(9, .val (.int .i64 (k : Int)))]) [(0, _), (1, _), (2, _), (3, _), (8, _)] (fun k => [(6, .arx 35 4 (((qa3 k).map (pcK sn b))).length ((((qa3 k).map (pcK sn b))).flatMap pcD))]) [_, _, _, _, _, _, .hole] (fun k => 1 ≤ k ∧ k ≤ mnN b) (fun k => mnN b - k) 1 [0, 1, 2, 3, 4, 5, 6] (⟨qaE _, by omega⟩) rfl ⟨rfl, rfl, rfl, rfl, rfl, trivial⟩ ⟨rfl, trivial⟩ ⟨rfl, rfl, rfl, rfl, rfl, rfl, by rfl, trivial⟩ ?_
 intro k hx
 simp only [upd, zad, zaf, qas, qaw]
 obtain ⟨hk1, hk⟩ := hx
 refine zah ?_
 refine za rfl (qI rfl (ev1 rfl) (ev1 rfl)) ?_
 refine zab ?_
 refine zag ?_
 refine qv rfl (fun c3 => ?_) (fun c3 => ?_)
 ·try simp only [decide_eq_true_eq, decide_eq_false_iff_not, beq_iff_eq, bne_iff_ne, beq_eq_false_iff_ne, bne_eq_false_iff_eq, qau, qay, qan, qaA, qar, ne_eq, Decidable.not_not, qaO, qaP] at c3
  refine qd ?_
  refine zag ?_
  refine qf ?_
  refine zah ?_
  refine zaa 2 rfl ?_
  refine zab ?_
  refine zag ?_
  refine qk [([], []), ([], []), ([4], []), ([], []), ([], []), ([], []), ([], []), ([], []), ([], []), ([], [])] qW (by kernel_rfl) ?_
  refine zae rfl rfl (zal (.inl rfl) (ev1 rfl)) ?_
  refine zae rfl rfl (yc rfl (ev1 rfl) (ev1 rfl) (fun _ => qat _ (by omega))) ?_
  refine zae rfl rfl (qb rfl kS (ev1 rfl) rfl rfl) ?_
  refine zae rfl rfl (qJ rfl qK (ev1 rfl)) ?_
  refine zae rfl rfl (zal (.inl rfl) (ev1 rfl)) ?_
  refine zae rfl rfl (qx rfl (ev1 rfl) (ev1 rfl) (fun _ => qat _ (by omega))) ?_
  refine zae rfl rfl (yc rfl (ev1 rfl) (ev1 rfl) (fun _ => qat _ (by omega))) ?_
  refine zae rfl rfl (zl rfl (ev1 rfl) (ev1 rfl)) ?_
  refine zae rfl rfl (zal (.inr rfl) (ev1 rfl)) ?_
  refine zae rfl rfl (zal (.inr rfl) (ev1 rfl)) ?_
  refine qu ?_
  refine zag ?_
  refine zam 1 ?_
  refine qk [([], []), ([5], []), ([], []), ([3], []), ([4], []), ([], []), ([], []), ([], []), ([], []), ([], []), ([], []), ([0, 1, 6, 7], [0, 1, 6, 7]), ([], [])] qW (by kernel_rfl) ?_
  refine zae rfl rfl (zal (.inl rfl) (ev1 rfl)) ?_
  refine zae rfl rfl (qq rfl kz (ev1 rfl) rfl rfl) ?_
  refine zae rfl rfl (zal (.inl rfl) (ev1 rfl)) ?_
  refine zae rfl rfl (qq rfl tb3 (ev1 rfl) rfl rfl) ?_
  refine zae rfl rfl (qb rfl kS (ev1 rfl) rfl rfl) ?_
  refine zae rfl rfl (zal (.inl rfl) (ev1 rfl)) ?_
  refine zae rfl rfl (zal (.inl rfl) (ev1 rfl)) ?_
  refine zae rfl rfl (zal (.inl rfl) (ev1 rfl)) ?_
  refine zae rfl rfl (xN (i := k * 256) (j := min b.length ((k + 1) * 256)) rfl qK (ev1 rfl) (ev1 rfl) (ev1 rfl) (ev1 rfl) (fun hp => by first | omega | (simp at hp; omega)) (fun hp => by first | omega | (simp at hp; omega)) (fun hp => by first | omega | (simp at hp; omega)) (fun hp => by first | omega | (simp at hp; omega)) (fun _ => rfl)) ?_
  refine zae rfl rfl (zai [] [] [] rfl (ev1 rfl) (ec (ev1 rfl) en) rfl rfl (y0 (jk b k) (by have := KV b k; omega)) rfl rfl rfl rfl rfl rfl) ?_
  refine zae rfl rfl (jW (ps := [(0, .tmp 21), (1, .tmp 22), (2, .tmp 23), (3, .tmp 29)]) rfl fl35 Ke (ec (ev1 rfl) (ec (ev1 rfl) (ec (ev1 rfl) (ec (ev1 rfl) en)))) rfl rfl rfl) ?_
  refine yw rfl rfl (J0 (i := 0) [0, 1, 6] [] [7] rfl (ev1 rfl) (ec (ev1 rfl) en) rfl rfl (by exact jx _ _ ⟨rfl, rfl, (by first | exact rfl | exact arx_fits rfl rfl (vwL_flat (fun _ => rfl) _) | exact kA rfl rfl (qp (fun _ => rfl) _) | exact qy rfl rfl (fun _ => rfl) | exact kB rfl rfl (fun _ => rfl)), trivial⟩) (GY ((qa3 k).map (pcK sn b)) (pcK sn b k) (by simp; try omega)) rfl rfl rfl (by exact (wrc rfl (wrc rfl (wrc rfl (wrc (by first | exact rfl | exact kK (fun _ => rfl) | exact ko (qp (fun _ => rfl) _) | exact kp (fun _ => rfl) | exact kr (fun _ => rfl)) rfl))))) rfl) rfl (by simp only [upd, zad, zaf]; exact rfl) ?_
  refine zae rfl rfl (kX rfl (ev1 rfl)) ?_
  refine qu ?_
  refine qj rfl (rfl) ?_
  refine qd ?_
  refine zac ?_
  refine za rfl (qx rfl (ev1 rfl) (ev1 rfl) (fun _ => qat _ (by omega))) ?_
  refine zaa 1 rfl ?_
  refine zab ?_
  refine ⟨k + 1, [0, 1, 2, 3, 4, 5, 7], ⟨by omega, by omega⟩, by simp only []; omega, rfl, ⟨rfl, rfl, rfl, rfl, rfl, rfl, trivial⟩, ⟨rfl, rfl, rfl, rfl, rfl, rfl, QW (by simp) (U8 sn b k).symm, trivial⟩⟩
 ·try simp only [decide_eq_true_eq, decide_eq_false_iff_not, beq_iff_eq, bne_iff_ne, beq_eq_false_iff_ne, bne_eq_false_iff_eq, qau, qay, qan, qaA, qar, ne_eq, Decidable.not_not, qaO, qaP] at c3
  refine qQ ?_
  obtain rfl : k = mnN b := by omega
  refine kc [0, 1, 2, 3, 4, 5, 6] (qD rfl) rfl rfl ?_ ⟨?_, ?_, ?_, ?_, ?_, ?_, ?_, trivial⟩
  rfl
  all_goals first | exact rfl | exact QW rfl rfl
theorem HD (sn : Int) (b : List Int) (h1 : snB sn = true) (h2 : 0 < b.length) (h3 : b.length ≤ 16384) : DFun Try.prog 5 [.val (.int .u64 sn), .slf 1 (b).length ((b).flatMap uc8)] [] (.tup [.slm 4 (y4 sn b).length ((y4 sn b).flatMap pcD), .val (.int .i64 0)]) [] := by
 refine qn (N := 18) 0 (by kernel_rfl) Try.func5 rfl rfl rfl (by simp only [fr0, qal, qam]; exact rfl) rfl fun s0 hs0 => ?_
 refine qF rfl hs0 ?_
 refine zam 1 ?_
 refine zac ?_
 refine zaa 1 rfl ?_
 refine zaj rfl (zao 0 rfl j4 rfl) ?_
 refine zab ?_
 refine qr (l0 := [_]) rfl rfl rfl rfl rfl hs0 ?_
 refine za rfl (qX rfl en (ec (ev1 rfl) en)) ?_
 refine zab ⟨_, _, _, 1, ev1 rfl, qaF hs0 (by decide), rfl, ?_⟩
 have hs1 : s0.M.length ≤ 1 := qaF hs0 (by decide)
 refine qE rfl hs0 ?_
 refine zag ?_
 refine zam 1 ?_
 refine zac ?_
 refine zaj rfl (zao 1 rfl zr26 rfl) ?_
 refine zab ?_
 refine zag ?_
 refine zag ?_
 refine zam 3 ?_
 refine zac ?_
 refine zaa 2 rfl ?_
 refine zaj rfl (zai [] [] [2, 3, 4] rfl (ev1 rfl) (ec (ev1 rfl) (ec (ev1 rfl) en)) rfl rfl (pcs_d sn b h1 h2 h3) rfl rfl rfl rfl rfl rfl) ?_
 refine zab ?_
 refine qf ?_
 refine zq 1 35 4 rfl (by simp only [qas, qaw, zad, zaf, qaI, qa4, qal, qam]; exact rfl) ?_
 refine kQ 5 XN rfl rfl (by simp only [qas, qaw, zad, zaf, List.map]; exact rfl) ?_
 refine yu ?_
 refine yu ?_
 simp only [qas, qaw]
 refine Yi (FL := [(6, _)]) (st := .ready) (pe := none) [6, 1, 5, 2, 3, 4] [] [7] 6 rfl rfl (ev1 rfl) rfl (we ⟨rfl, trivial⟩) rfl rfl rfl (A8 sn b h2 h3) rfl rfl rfl (by exact (wrc rfl (wrc rfl (wrc rfl (wrc rfl (wrc rfl (wrc rfl (wrc (by first | exact rfl | exact kK (fun _ => rfl) | exact ko (qp (fun _ => rfl) _) | exact kp (fun _ => rfl) | exact kr (fun _ => rfl)) rfl)))))))) rfl rfl rfl (by simp) (fun e => ?_) (fun c e => ?_)
 ·simp only [upd, zad, zaf]
  refine zag ?_
  refine Kz 1 0 (HC _) rfl rfl rfl (by simp only [zad, zaf]; exact rfl) ?_
  refine zac ?_
  refine za rfl (qb rfl tb26 (ev1 rfl) rfl rfl) ?_
  refine zaa 1 rfl ?_
  refine qc rfl (qG rfl qU (ev1 rfl) (ev1 rfl) rfl) ?_
  refine zab ?_
  refine qe ?_
  refine jO (kH [0] [] rfl rfl (YO _) rfl rfl rfl rfl rfl) ?_
  refine qH (rs2 rfl (qO rfl) (jB qU rfl rfl rfl)) rfl ?_
  rfl
 ·cases e
theorem A9 (sn : Int) (b : List Int) (h1 : (snB sn && decide ((0 : Int) < (b.length : Int))) = false) : DFun Try.prog 5 [.val (.int .u64 sn), .slf 1 (b).length ((b).flatMap uc8)] [] (.tup [.val (.slice none 0 0), .val (.int .i64 2)]) [] := by
 refine qn (N := 18) 0 (by kernel_rfl) Try.func5 rfl rfl rfl (by simp only [fr0, qal, qam]; exact rfl) rfl fun s0 hs0 => ?_
 refine qF rfl hs0 ?_
 refine zam 1 ?_
 refine zac ?_
 refine zaa 1 rfl ?_
 refine zaj rfl (zao 0 rfl j4 rfl) ?_
 refine zab ?_
 refine qr (l0 := [_]) rfl rfl rfl rfl rfl hs0 ?_
 refine za rfl (qX rfl en (ec (ev1 rfl) en)) ?_
 refine zab ⟨_, _, _, 1, ev1 rfl, qaF hs0 (by decide), rfl, ?_⟩
 have hs1 : s0.M.length ≤ 1 := qaF hs0 (by decide)
 refine qE rfl hs0 ?_
 refine zag ?_
 refine zam 1 ?_
 refine zac ?_
 refine zaj rfl (zao 1 rfl zr26 rfl) ?_
 refine zab ?_
 refine zag ?_
 refine zah ?_
 refine zaa 2 rfl ?_
 refine ke rfl (qA [] [] [] rfl (ev1 rfl) (ec (ev1 rfl) (ec (ev1 rfl) en)) rfl rfl (A6 sn b h1) rfl rfl rfl rfl rfl rfl) rfl ?_
 refine jO (qP [0] [] rfl rfl rfl (uN _ _) rfl rfl rfl rfl rfl) ?_
 refine qH (rs2 rfl (qO rfl) (jB qU rfl rfl rfl)) rfl ?_
 rfl
theorem qaa (sn : Int) (b : List Int) (h1 : snB sn = true) (h3 : 16384 < b.length) : DFun Try.prog 5 [.val (.int .u64 sn), .slf 1 (b).length ((b).flatMap uc8)] [] (.tup [.val (.slice none 0 0), .val (.int .i64 3)]) [] := by
 refine qn (N := 18) 0 (by kernel_rfl) Try.func5 rfl rfl rfl (by simp only [fr0, qal, qam]; exact rfl) rfl fun s0 hs0 => ?_
 refine qF rfl hs0 ?_
 refine zam 1 ?_
 refine zac ?_
 refine zaa 1 rfl ?_
 refine zaj rfl (zao 0 rfl j4 rfl) ?_
 refine zab ?_
 refine qr (l0 := [_]) rfl rfl rfl rfl rfl hs0 ?_
 refine za rfl (qX rfl en (ec (ev1 rfl) en)) ?_
 refine zab ⟨_, _, _, 1, ev1 rfl, qaF hs0 (by decide), rfl, ?_⟩
 have hs1 : s0.M.length ≤ 1 := qaF hs0 (by decide)
 refine qE rfl hs0 ?_
 refine zag ?_
 refine zam 1 ?_
 refine zac ?_
 refine zaj rfl (zao 1 rfl zr26 rfl) ?_
 refine zab ?_
 refine zag ?_
 refine zah ?_
 refine zaa 2 rfl ?_
 refine ke rfl (qA [] [] [] rfl (ev1 rfl) (ec (ev1 rfl) (ec (ev1 rfl) en)) rfl rfl (A7 sn b h1 h3) rfl rfl rfl rfl rfl rfl) rfl ?_
 refine jO (qP [0] [] rfl rfl rfl (uN _ _) rfl rfl rfl rfl rfl) ?_
 refine qH (rs2 rfl (qO rfl) (jB qU rfl rfl rfl)) rfl ?_
 rfl
end Go.Proofs.Ytofklkbfkoliiaa
namespace Go.Proofs.Ytofklkbfkoliiaa
set_option linter.unusedVariables false
set_option linter.unusedSimpArgs false
open Go.RowKit
theorem GZ {b : List Int} {k : Nat} (hk : k < mnN b) : k * 256 < b.length ∧ (jk b k).length = min b.length ((k + 1) * 256) - k * 256 := by
 unfold mnN at hk
 unfold jk
 rw [qaN, qaR]
 omega
theorem YR {b : List Int} (h : b.length ≤ 16384) : mnN b ≤ 64 := by
 unfold mnN
 omega
theorem xS {b : List Int} (h : 0 < b.length) : 0 < mnN b := by
 unfold mnN
 omega
theorem JC {sn : Int} {b : List Int} (h1 : snB sn = true) (h3 : b.length ≤ 16384) {k : Nat} (hk : k < mnN b) : pcB (pcK sn b k) = true := by
 obtain ⟨a, c⟩ := GZ hk
 have hm := YR h3
 have hmn : mnN b = (b.length + 255) / 256 := rfl
 unfold snB at h1
 rw [qan, decide_eq_true_eq, decide_eq_true_eq] at h1
 refine pcB_iff.2 ⟨h1, ?_, ?_, ?_⟩
 ·show 1 ≤ ((mnN b : Nat) : Int) ∧ ((mnN b : Nat) : Int) ≤ 64
  omega
 ·show 0 ≤ (k : Int) ∧ (k : Int) < ((mnN b : Nat) : Int)
  omega
 ·show (jk b k).length = 256 ∨ ((k : Int) = ((mnN b : Nat) : Int) - 1 ∧ 1 ≤ (jk b k).length ∧ (jk b k).length < 256)
  omega
theorem xq (b : List Int) : ∀ k, ((qa3 k).map (jk b)).flatten = b.take (k * 256)
 | 0 => by simp
 | k + 1 => by
  rw [List.range_succ, List.map_append, List.flatten_append, xq b k]
  have e : jk b k = (b.drop (k * 256)).take 256 := by
   unfold jk
   by_cases h : (k + 1) * 256 ≤ b.length
   ·rw [Nat.min_eq_right h, show (k + 1) * 256 - k * 256 = 256 by omega]
   ·rw [Nat.min_eq_left (by omega), qaK (by rw [qaR]; omega), qaK (by rw [qaR]; omega)]
  simp only [List.map_cons, List.map_nil, List.flatten_cons, List.flatten_nil, qa6]
  rw [e, show (k + 1) * 256 = k * 256 + 256 by omega, List.take_add]
def yQ (b : List Int) : List (List Int) := (qa3 (mnN b)).map (jk b)
theorem G0 (b : List Int) : (yQ b).flatten = b := by
 unfold yQ
 rw [xq, qaK (by unfold mnN; omega)]
def gF (sn : Int) (b : List Int) : PiM := ⟨sn, mnN b, yQ b⟩
def G1 (sn : Int) (b : List Int) (k : Nat) : PiM := if k = 0 then zPi else ⟨sn, mnN b, (qa3 k).map (jk b) ++ qax (mnN b - k) []⟩
theorem gz (sn : Int) (b : List Int) : (y4 sn b).length = mnN b := by unfold y4; simp
theorem zY {sn : Int} {b : List Int} {k : Nat} (hk : k < (y4 sn b).length) : (y4 sn b)[k] = pcK sn b k := by
 refine (List.getElem_eq_iff hk).2 ?_
 rw [gz] at hk
 unfold y4
 rw [qa5, List.getElem?_range hk]
 rfl
theorem G2 {p : PiM} {x : PcM} (hx : pcB x = true) (h : p.sn < x.sn) : jo p x = (0, ⟨x.sn, x.mn, (qax x.mn.toNat []).set x.ix.toNat x.b⟩) := by
 unfold jo
 rw [if_pos hx, if_neg (by omega), if_pos h]
theorem G3 {p : PiM} {x : PcM} (hx : pcB x = true) (h : x.sn = p.sn) (hm : x.mn = p.mn) (he : emp (p.ps.getD x.ix.toNat []) = true) : jo p x = (0, { p with ps := p.ps.set x.ix.toNat x.b }) := by
 unfold jo
 rw [if_pos hx, if_neg (by omega), if_neg (by omega), if_neg (fun e => e hm), if_pos he]
theorem U9 {sn : Int} {b : List Int} (h1 : snB sn = true) (h3 : b.length ≤ 16384) {k : Nat} (hk : k < mnN b) : jo (G1 sn b k) (pcK sn b k) = (0, G1 sn b (k + 1)) := by
 have hok := JC h1 h3 hk
 have hs : 1 ≤ sn := by
  unfold snB at h1
  rw [qan, decide_eq_true_eq] at h1
  exact h1.1
 by_cases h0 : k = 0
 ·subst h0
  have e0 : G1 sn b 0 = zPi := rfl
  rw [e0, G2 hok (show (0 : Int) < sn by omega)]
  unfold G1
  rw [if_neg (by decide)]
  show (0, (⟨sn, ((mnN b : Nat) : Int), (qax ((mnN b : Nat) : Int).toNat ([] : List Int)).set ((0 : Nat) : Int).toNat (jk b 0)⟩ : PiM)) = (0, ⟨sn, ((mnN b : Nat) : Int), _⟩)
  rw [qaV, qaV]
  have e : qax (mnN b) ([] : List Int) = [] :: qax (mnN b - 1) [] := by
   rw [← List.replicate_succ]
   congr 1
   omega
  rw [e, zad]
  rfl
 ·have e0 : G1 sn b k = ⟨sn, mnN b, (qa3 k).map (jk b) ++ qax (mnN b - k) []⟩ := if_neg h0
  have hl : ((qa3 k).map (jk b)).length = k := by simp
  rw [e0, G3 hok rfl rfl]
  ·unfold G1
   rw [if_neg (by omega)]
   show (0, (⟨sn, ((mnN b : Nat) : Int), ((qa3 k).map (jk b) ++ qax (mnN b - k) ([] : List Int)).set ((k : Nat) : Int).toNat (jk b k)⟩ : PiM)) = _
   rw [qaV, List.set_append_right _ _ (by omega), hl, Nat.sub_self, show mnN b - k = (mnN b - (k + 1)) + 1 by omega, List.replicate_succ, zad, List.range_succ, List.map_append, qaQ]
   rfl
  ·show emp (((qa3 k).map (jk b) ++ qax (mnN b - k) ([] : List Int)).getD ((k : Nat) : Int).toNat []) = true
   rw [qaV, qaJ, qaH (by omega), hl, Nat.sub_self]
   cases h : mnN b - k with
   | zero => rfl
   | succ n => rfl
theorem KW {sn : Int} {b : List Int} (h1 : snB sn = true) (h3 : b.length ≤ 16384) : ∀ k, k ≤ mnN b → km ((y4 sn b).take k) (zPi, 0) = (G1 sn b k, 0)
 | 0, _ => rfl
 | k + 1, hk => by
  have ih := KW h1 h3 k (by omega)
  rw [jR _ _ (by rw [gz]; omega), ih, zY]
  dsimp only
  rw [U9 h1 h3 (by omega)]
  rfl
theorem Xa {sn : Int} {b : List Int} (h1 : snB sn = true) (h2 : 0 < b.length) (h3 : b.length ≤ 16384) : km (y4 sn b) (zPi, 0) = (gF sn b, 0) := by
 have h := KW h1 h3 (mnN b) (qaE _)
 rw [← gz sn b, List.take_length, gz] at h
 rw [h]
 unfold G1 gF yQ
 rw [if_neg (by have := xS h2; omega), Nat.sub_self, List.replicate_zero, qa6]
theorem YS : kZ zPi = true := by kernel_rfl
theorem Xb {sn : Int} {b : List Int} (h1 : snB sn = true) (h2 : 0 < b.length) (h3 : b.length ≤ 16384) : kZ (gF sn b) = true := by
 have h := (zX YS (y4 sn b) 0).1
 rw [Xa h1 h2 h3] at h
 exact h
theorem G4 {ps : List (List Int)} (h : ∀ b ∈ ps, emp b = false) : ∀ i, jK ps i = -1 := by
 induction ps with
 | nil => intro i; rfl
 | cons b r ih =>
  intro i
  rw [jK, if_neg (by rw [h b (qaW ..)]; decide)]
  exact ih (fun c hc => h c (qaX _ hc)) _
theorem xe {b c : List Int} (h : c ∈ yQ b) : emp c = false := by
 unfold yQ at h
 obtain ⟨k, hk, rfl⟩ := List.mem_map.1 h
 have hk := qba.1 hk
 obtain ⟨a, d⟩ := GZ hk
 cases he : emp (jk b k) with
 | false => rfl
 | true =>
  rw [emp_iff.1 he] at d
  simp at d
  omega
end Go.Proofs.Ytofklkbfkoliiaa
namespace Go.Proofs.Ytofklkbfkoliiaa
set_option linter.unusedVariables false
set_option linter.unusedSimpArgs false
open Go.RowKit
attribute [local irreducible] ku kY gU gf qL k8 rdP rdN gT
theorem jl {a : List Int} (ha : isB a) (n : Nat) : isB (a.drop n) := fun z hz => ha z (List.mem_of_mem_drop hz)
end Go.Proofs.Ytofklkbfkoliiaa
namespace Go.Proofs.Ytofklkbfkoliiaa
set_option linter.unusedVariables false
set_option linter.unusedSimpArgs false
open Go.RowKit
attribute [local irreducible] tkN jP ky
theorem w6 : fdO Try.prog 54 0 = some 0 := by kernel_rfl
theorem vp : fdO Try.prog 54 1 = some 3 := by kernel_rfl
theorem vq : fdO Try.prog 54 2 = some 4 := by kernel_rfl
theorem v5 : fdO Try.prog 54 3 = some 5 := by kernel_rfl
structure SnM where
 w : Int
 h : Int
 ts : List TL
 f : Int
 st : Int
 v : Vec
def snL (s : SnM) : List D := [.val (.int .i64 s.w), .val (.int .i64 s.h), .slf 256 s.ts.length (s.ts.flatMap tc), .val (.int .u64 s.f), .val (.int .u64 s.st), .val (.int .u64 (s.v 0)), .val (.int .u64 (s.v 1)), .val (.int .u64 (s.v 2)), .val (.int .u64 (s.v 3)), .val (.int .u64 (s.v 4)), .val (.int .u64 (s.v 5)), .val (.int .u64 (s.v 6)), .val (.int .u64 (s.v 7)), .val (.int .u64 (s.v 8))]
def uO (s : SnM) : Bool := ((jb s.w s.h s.ts && decide (s.f ≤ s.st)) && decide (s.st ≤ 4611686018427387904)) && vB s.v
theorem snC (s : SnM) : ((((vV (jb s.w s.h s.ts) 150 != 0) || decide (s.st < s.f)) || decide (4611686018427387904 < s.st)) || (vV (vB s.v) 230 != 0)) = !(uO s) := by
 rw [y3 _ (by decide), y3 _ (by decide)]
 unfold uO
 cases jb s.w s.h s.ts <;> cases vB s.v <;> simp <;> (rw [Bool.eq_iff_iff]; simp; try omega)
def QX (s t : SnM) : Bool := ((decide (s.w = t.w ∧ s.h = t.h ∧ s.ts = t.ts) && (s.f == t.f)) && (s.st == t.st)) && eqV s.v t.v
theorem zZ (s : SnM) : DFun Try.prog 29 [.agg (snL s)] [] (.val (.int .i64 (vV (uO s) 310))) [] := by
 refine zan (N := 25) 0 (by kernel_rfl) Try.func29 rfl rfl rfl (by simp only [fr0, qal, qam]; exact rfl) rfl fun s0 hs0 => ?_
 refine zag ?_
 refine zam 1 ?_
 refine zac ?_
 refine zaj rfl (qz 0 rfl (ev1 rfl) rfl) ?_
 refine zaa 1 rfl ?_
 refine zab ?_
 refine zag ?_
 refine zah ?_
 refine za rfl (qa rfl w6 (ev1 rfl)) ?_
 refine za rfl (uz rfl vA (ev1 rfl) rfl rfl rfl) ?_
 refine za rfl (zai [] [] [] rfl (ev1 rfl) (ec (ev1 rfl) en) rfl rfl (Gq s.w s.h s.ts) rfl rfl rfl rfl rfl rfl) ?_
 refine za rfl (ki rfl (ev1 rfl) (ev1 rfl)) ?_
 refine zaa 1 rfl ?_
 refine zak (qm rfl rfl rfl) rfl rfl rfl (qa rfl vp (ev1 rfl)) ?_
 refine zak (qm rfl rfl rfl) rfl rfl rfl (qb rfl kz (ev2 rfl) rfl rfl) ?_
 refine zak (qm rfl rfl rfl) rfl rfl rfl (qa rfl vq (ev1 rfl)) ?_
 refine zak (qm rfl rfl rfl) rfl rfl rfl (qb rfl kz (ev2 rfl) rfl rfl) ?_
 refine zak (qm rfl rfl rfl) rfl rfl rfl (kD rfl (ev2 rfl) (ev2 rfl)) ?_
 refine za rfl (kC rfl (ev1 rfl) (ev3 rfl id)) ?_
 refine zaa 1 rfl ?_
 refine zak (qm rfl rfl rfl) rfl rfl rfl (qa rfl vq (ev1 rfl)) ?_
 refine zak (qm rfl rfl rfl) rfl rfl rfl (qb rfl kz (ev2 rfl) rfl rfl) ?_
 refine zak (qm rfl rfl rfl) rfl rfl rfl (kD rfl (ev2 rfl) (ev1 rfl)) ?_
 refine za rfl (kC rfl (ev1 rfl) (ev3 rfl id)) ?_
 refine zaa 1 rfl ?_
 refine zak (qm rfl rfl rfl) rfl rfl rfl (qa rfl v5 (ev1 rfl)) ?_
 refine zak (qm rfl rfl rfl) rfl rfl rfl (xM (R := [_, _, _, _, _, _, _, _, _]) rfl gw (ev2 rfl) rfl rfl rfl) ?_
 refine zak (qm rfl rfl rfl) rfl rfl rfl (zai [] [] [] rfl (ev1 rfl) (ec (ev2 rfl) en) rfl rfl (uD s.v) rfl rfl rfl rfl rfl rfl) ?_
 refine zak (qm rfl rfl rfl) rfl rfl rfl (ki rfl (ev2 rfl) (ev1 rfl)) ?_
 refine za rfl (kC rfl (ev1 rfl) (ev3 rfl id)) ?_
 refine zab ?_
 refine qv rfl (fun c1 => ?_) (fun c1 => ?_)
 ·refine zah ?_
  refine zaa 1 rfl ?_
  refine zab ?_
  refine qe ?_
  refine qH (rs1 rfl (qO rfl)) rfl ?_
  have h : uO s = false := by
   rw [snC] at c1
   simpa using c1
  rw [h]
  rfl
 ·refine qd ?_
  refine zah ?_
  refine zaa 1 rfl ?_
  refine zab ?_
  refine qe ?_
  refine qH (rs1 rfl (qO rfl)) rfl ?_
  have h : uO s = true := by
   rw [snC] at c1
   simpa using c1
  rw [h]
  rfl
theorem ZU (s t : SnM) (hn : s.ts.length ≤ 5000) : DFun Try.prog 14 [.agg (snL s), .agg (snL t)] [] (.val (.bool (QX s t))) [] := by
 refine zan (N := 31) 0 (by kernel_rfl) Try.func14 rfl rfl rfl (by simp only [fr0, qal, qam]; exact rfl) rfl fun s0 hs0 => ?_
 refine zag ?_
 refine zam 2 ?_
 refine zac ?_
 refine zaj rfl (qz 0 rfl (ev1 rfl) rfl) ?_
 refine zaj rfl (qz 1 rfl (ev1 rfl) rfl) ?_
 refine zaa 1 rfl ?_
 refine zab ?_
 refine zah ?_
 refine za rfl (qa rfl vp (ev1 rfl)) ?_
 refine za rfl (qb rfl kz (ev1 rfl) rfl rfl) ?_
 refine za rfl (qa rfl vp (ev1 rfl)) ?_
 refine za rfl (qb rfl kz (ev1 rfl) rfl rfl) ?_
 refine za rfl (qB rfl (ev1 rfl) (ev1 rfl)) ?_
 refine zaa 1 rfl ?_
 refine zak (qC rfl rfl rfl) rfl rfl rfl (qa rfl vq (ev1 rfl)) ?_
 refine zak (qC rfl rfl rfl) rfl rfl rfl (qb rfl kz (ev2 rfl) rfl rfl) ?_
 refine zak (qC rfl rfl rfl) rfl rfl rfl (qa rfl vq (ev1 rfl)) ?_
 refine zak (qC rfl rfl rfl) rfl rfl rfl (qb rfl kz (ev2 rfl) rfl rfl) ?_
 refine zak (qC rfl rfl rfl) rfl rfl rfl (qB rfl (ev2 rfl) (ev2 rfl)) ?_
 refine za rfl (q9 rfl (ev1 rfl) (ev3 rfl id)) ?_
 refine zaa 1 rfl ?_
 refine zak (qC rfl rfl rfl) rfl rfl rfl (qa rfl v5 (ev1 rfl)) ?_
 refine zak (qC rfl rfl rfl) rfl rfl rfl (xM (R := [_, _, _, _, _, _, _, _, _]) rfl gw (ev2 rfl) rfl rfl rfl) ?_
 refine zak (qC rfl rfl rfl) rfl rfl rfl (qa rfl v5 (ev1 rfl)) ?_
 refine zak (qC rfl rfl rfl) rfl rfl rfl (xM (R := [_, _, _, _, _, _, _, _, _]) rfl gw (ev2 rfl) rfl rfl rfl) ?_
 refine zak (qC rfl rfl rfl) rfl rfl rfl (vg eq52 rfl gd52 gw (ev2 rfl) (ev2 rfl)) ?_
 refine za rfl (q9 rfl (ev1 rfl) (ev3 rfl id)) ?_
 refine zaa 1 rfl ?_
 refine zak (qC rfl rfl rfl) rfl rfl rfl (qa rfl w6 (ev1 rfl)) ?_
 refine zak (qC rfl rfl rfl) rfl rfl rfl (uz rfl vA (ev2 rfl) rfl rfl rfl) ?_
 refine zak (qC rfl rfl rfl) rfl rfl rfl (qa rfl w6 (ev1 rfl)) ?_
 refine zak (qC rfl rfl rfl) rfl rfl rfl (uz rfl vA (ev2 rfl) rfl rfl rfl) ?_
 refine zak (qC rfl rfl rfl) rfl rfl rfl (zai [] [] [] rfl (ev1 rfl) (ec (ev2 rfl) (ec (ev2 rfl) en)) rfl rfl (As s.w s.h t.w t.h s.ts t.ts hn) rfl rfl rfl rfl rfl rfl) ?_
 refine za rfl (q9 rfl (ev1 rfl) (ev3 rfl id)) ?_
 refine zaa 1 rfl ?_
 refine zab ?_
 refine qe ?_
 refine qH (rs1 rfl (qO rfl)) rfl ?_
 unfold QX
 generalize decide (s.w = t.w ∧ s.h = t.h ∧ s.ts = t.ts) = a
 generalize (s.f == t.f) = b
 generalize (s.st == t.st) = c
 generalize eqV s.v t.v = d
 cases a <;> cases b <;> cases c <;> cases d <;> rfl
end Go.Proofs.Ytofklkbfkoliiaa
namespace Go.Proofs.Ytofklkbfkoliiaa
set_option linter.unusedVariables false
set_option linter.unusedSimpArgs false
open Go.RowKit
attribute [local irreducible] tkN jP ky kN vC kw jb
theorem vr : tyB Try.prog 54 = some (true, 14) := by kernel_rfl
abbrev QY (s : SnM) : List (List Int) := [kN 8 s.f ++ kN 8 s.st, vC s.v, kw s.w s.h s.ts]
def j0 (s : SnM) : List Int := (QY s).flatten
theorem snOk_iff {s : SnM} : uO s = true ↔ jb s.w s.h s.ts = true ∧ s.f ≤ s.st ∧ s.st ≤ 4611686018427387904 ∧ vB s.v = true := by
 unfold uO
 simp only [qan, decide_eq_true_eq, and_assoc]
theorem G5 (v : Vec) : (vC v).length = 64 := by
 unfold vC
 exact KR (gD v)
theorem qab (v : Vec) (hv : vB v = true) : DFun Try.prog 32 [.val (.agg (c9 v).toArray)] [] (.tup [.slf 1 (vC v).length ((vC v).flatMap uc8), .val (.int .i64 0)]) [] := yL (AW v hv) rfl
theorem e8N : ((256 ^ 8 : Nat) : Int) = 18446744073709551616 := by decide
theorem z1 {s : SnM} (h : jb s.w s.h s.ts = true) : (j0 s).length = 80 + (kw s.w s.h s.ts).length ∧ (kw s.w s.h s.ts).length ≤ 5122 ∧ 3 ≤ (kw s.w s.h s.ts).length ∧ s.ts.length ≤ 16 := by
 have g := Jx h
 have g2 := vW g.2.2.1
 have g3 := UW s.w s.h s.ts
 unfold j0 QY
 simp only [List.flatten_cons, List.flatten_nil, qap, jQ, G5, qa6]
 omega
theorem V1 (s : SnM) (h : uO s = true) (hf : 0 ≤ s.f)  : DFun Try.prog 12 [.agg (snL s)] [] (.tup [.slf 1 (j0 s).length ((j0 s).flatMap uc8), .val (.int .i64 0)]) [] := by
 obtain ⟨hr, hfs, hst, hv⟩ := snOk_iff.1 h
 obtain ⟨k1, k2, k3, k4⟩ := z1 hr
 refine qn (N := 35) 0 (by kernel_rfl) Try.func12 rfl rfl rfl (by simp only [fr0, qal, qam]; exact rfl) rfl fun s0 hs0 => ?_
 refine qF rfl hs0 ?_
 refine zam 2 ?_
 refine zac ?_
 refine zaj rfl (qz 0 rfl (ev1 rfl) rfl) ?_
 refine zaa 1 rfl ?_
 refine zaj rfl (zao 1 rfl j4 rfl) ?_
 refine zab ?_
 refine qr (l0 := [_]) rfl rfl rfl rfl rfl hs0 ?_
 refine za rfl (qX rfl en (ec (ev1 rfl) en)) ?_
 refine zab ⟨_, _, _, 2, ev1 rfl, qaF hs0 (by decide), rfl, ?_⟩
 have hs1 : s0.M.length ≤ 2 := qaF hs0 (by decide)
 refine qE rfl hs0 ?_
 refine zah ?_
 refine za rfl (qi rfl vr (ev1 rfl) rfl rfl) ?_
 refine za rfl (zai [] [] [] rfl (ev1 rfl) (ec (ev1 rfl) en) rfl rfl (zZ s) rfl rfl rfl rfl rfl rfl) ?_
 refine za rfl (qB rfl (ev1 rfl) (ev1 rfl)) ?_
 refine za rfl (zai [] [] [] rfl (ev1 rfl) (ec (ev1 rfl) (ec (ev1 rfl) en)) rfl rfl (kg _ _ (by rw [h]; rfl)) rfl rfl rfl rfl rfl rfl) ?_
 refine zab ?_
 refine zah ?_
 refine za rfl (xj (ps := [(0, .const (.int .i64 8)), (1, .const (.int .i64 8))]) rfl vm zr3 rfl (vc (ev1 rfl) (vc (ev1 rfl) vn)) rfl (by decide) (by decide)) ?_
 refine za rfl (qa rfl vp (ev1 rfl)) ?_
 refine za rfl (qb rfl kz (ev1 rfl) rfl rfl) ?_
 refine za rfl (qa rfl vq (ev1 rfl)) ?_
 refine za rfl (qb rfl kz (ev1 rfl) rfl rfl) ?_
 refine za rfl (xj (ps := [(0, .tmp 12), (1, .tmp 14)]) rfl Vw zr22 rfl (vc (ev1 rfl) (vc (ev1 rfl) vn)) rfl (by decide) (by decide)) ?_
 refine za rfl (zai [] [] [] rfl (ev1 rfl) (ec (ev1 rfl) (ec (ev1 rfl) en)) rfl rfl (ZF s.f s.st (by rw [e8N]; omega) (by rw [e8N]; omega)) rfl rfl rfl rfl rfl rfl) ?_
 refine zaa 2 rfl ?_
 refine za rfl (zai [] [] [] rfl (ev1 rfl) (ec (ev1 rfl) (ec (ev1 rfl) en)) rfl rfl (zS (kN 8 s.f ++ kN 8 s.st)) rfl rfl rfl rfl rfl rfl) ?_
 refine zaa 1 rfl ?_
 refine zab ?_
 refine zag ?_
 refine qk [([], []), ([], []), ([0], []), ([], []), ([], []), ([], []), ([], []), ([], []), ([0], []), ([], []), ([], []), ([], []), ([], []), ([], []), ([], []), ([], []), ([1], [1])] qW (by kernel_rfl) ?_
 refine zae rfl rfl (zal (.inl rfl) (ev1 rfl)) ?_
 refine zae rfl rfl (qa rfl v5 (ev1 rfl)) ?_
 refine zae rfl rfl (xM (R := [_, _, _, _, _, _, _, _, _]) rfl gw (ev1 rfl) rfl rfl rfl) ?_
 refine zae rfl rfl (zai [] [] [] rfl (ev1 rfl) (ec (ev1 rfl) en) rfl rfl (qab s.v hv) rfl rfl rfl rfl rfl rfl) ?_
 refine zae rfl rfl (jH rfl (ev1 rfl) rfl) ?_
 refine zae rfl rfl (jH rfl (ev1 rfl) rfl) ?_
 refine zae rfl rfl (zai [] [] [] rfl (ev1 rfl) (ec (ev1 rfl) (ec (ev1 rfl) en)) rfl rfl (zS (vC s.v)) rfl rfl rfl rfl rfl rfl) ?_
 refine zae rfl rfl (qa rfl w6 (ev1 rfl)) ?_
 refine zae rfl rfl (uz rfl vA (ev1 rfl) rfl rfl rfl) ?_
 refine zae rfl rfl (zai [] [] [] rfl (ev1 rfl) (ec (ev1 rfl) en) rfl rfl (cnv_f s.w s.h s.ts hr (by omega)) rfl rfl rfl rfl rfl rfl) ?_
 refine zae rfl rfl (jH rfl (ev1 rfl) rfl) ?_
 refine zae rfl rfl (jH rfl (ev1 rfl) rfl) ?_
 refine zae rfl rfl (zai [] [] [] rfl (ev1 rfl) (ec (ev1 rfl) (ec (ev1 rfl) en)) rfl rfl (zS (kw s.w s.h s.ts)) rfl rfl rfl rfl rfl rfl) ?_
 refine zae rfl rfl (WH (ps := [(0, .tmp 20), (1, .tmp 26), (2, .tmp 32)]) rfl gu Uf rfl (ec (ev1 rfl) (ec (ev1 rfl) (ec (ev1 rfl) en))) rfl (by decide)) ?_
 refine zae rfl rfl (zai [] [] [] rfl (ev1 rfl) (ec (ev1 rfl) en) rfl rfl (GS (QY s) 3 _ rfl rfl (by show (j0 s).length ≤ _; omega)) rfl rfl rfl rfl rfl rfl) ?_
 refine zae rfl rfl (zal (.inr rfl) (ev1 rfl)) ?_
 refine jY rfl rfl (qG rfl qU (ev1 rfl) (ev1 rfl) rfl) rfl (by simp only [upd, zad, zaf]; exact rfl) ?_
 refine qu ?_
 refine qe ?_
 refine jO (kH [1] [] rfl rfl (JA _) rfl rfl rfl rfl rfl) ?_
 refine qH (rs2 rfl (qO rfl) (jB qU rfl rfl rfl)) rfl ?_
 rfl
end Go.Proofs.Ytofklkbfkoliiaa
