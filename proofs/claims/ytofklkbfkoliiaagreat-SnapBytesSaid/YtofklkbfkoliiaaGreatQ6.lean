/- taking from the front of bytes; what laws say of bytes; what laws say of patches; what laws say of canvases read; errors by panics; numbers laid and got; rows put together; pieces and piles: which may be; piles that change; pieces put, one by one; piles: what putting makes of them; piles with a piece more; piles with pieces more; bytes cut in pieces; pieces gathered; the document: tiles that are read; snapshots: which may be, and are the same; snapshots as bytes. No condition. -/
import Derived.Test.YtofklkbfkoliiaaGreatQ5
import Derived.Test.YtofklkbfkoliiaaGreatRows
set_option maxRecDepth 4000
set_option maxHeartbeats 1000000
open List renaming getElem?_eq_getElem → qbe, length_append → qbf, cons_append → qbp, nil_append → qbq, replicate → qbs, length_replicate → qbv, flatMap_cons → qbB, length_cons → qbC, length_take → qbD, length_drop → qbF, eq_nil_of_length_eq_zero → qbH, getD_eq_getElem?_getD → qbI, take_succ_eq_append_getElem → qbK, append_assoc → qbM, length_nil → qbQ, mem_cons_self → qbR, mem_cons_of_mem → qbT, append_nil → qbV, range → qbW
open Go.IntWalk renaming i64_in → qbg
open Nat renaming zero_add → qbh, reduceAdd → qbj, le_of_ble_eq_true → qbr, le_refl → qby, le_trans → qbE, zero_le → qbO, lt_of_succ_le → qbP
open Bool renaming and_eq_true → qbi, or_eq_false_iff → qbk, not_eq_true' → qbl, not_eq_false' → qbm, or_eq_true → qbo
open Option.some renaming inj → qbn
open Int renaming not_lt → qbz, not_le → qbA
namespace Go.Proofs.YtofklkbfkoliiaaGreat
set_option linter.unusedVariables false
set_option linter.unusedSimpArgs false
open Go.RowKit
attribute [local irreducible] tkN k6 kw yl XB tkId YZ XC
theorem wkZL {d : D} : WkL [d, .val (.int .u64 0), .val (.int .i64 0), .val (.int .u64 0), .val (.int .i64 0), .val (.int .i64 0), .val (.int .i64 0), .val (.int .i64 0), .val (.int .i64 0), .val (.int .i64 0), .val (.int .u8 0), .val (.int .u8 0), .val (.int .u8 0), .val (.int .u8 0), .val (.int .i64 0), .val (.int .i64 0), .val (.slice none 0 0), .val (.int .u64 0), .val (.int .i64 0), .val (.int .u64 0)] (d :: opD zO) :=
 WkL.cons (Wk.refl _) (WkL.cons (Wk.refl _) (WkL.cons (Wk.refl _) (WkL.cons (Wk.refl _) (WkL.cons (Wk.refl _) (WkL.cons (Wk.refl _) (WkL.cons (Wk.refl _) (WkL.cons (Wk.refl _) (WkL.cons (Wk.refl _) (WkL.cons (Wk.refl _) (WkL.cons (Wk.refl _) (WkL.cons (Wk.refl _) (WkL.cons (Wk.refl _) (WkL.cons (Wk.refl _) (WkL.cons (Wk.refl _) (WkL.cons (Wk.refl _) (WkL.cons (Wk.slf0 4) (WkL.cons (Wk.refl _) (WkL.cons (Wk.refl _) (WkL.cons (Wk.refl _) (WkL.nil))))))))))))))))))))
theorem XO (L : List Int) (e : Int) : DFun Tryz.prog 118 [.dpm [.slf 1 (L).length ((L).flatMap uc8), .val (.int .i64 e)]] [] (.val (.int .i64 (L.length : Int))) [] := by
 refine zap (N := 11) 0 (by kernel_rfl) Tryz.func118 rfl rfl rfl (by simp only [fr0, qbh, qbj]; exact rfl) rfl fun s0 hs0 => ?_
 refine zai ?_
 refine zaa 1 rfl ?_
 refine zab ?_
 refine zad ?_
 refine zai ?_
 refine zaa 1 rfl ?_
 refine za rfl (Yw rfl VG (ev1 rfl)) ?_
 refine zab ?_
 refine qf rfl (rfl) ?_
 refine zao ?_
 refine zai ?_
 refine zaa 1 rfl ?_
 refine za rfl (qC rfl (ev1 rfl) (fun s v h => by cases h; exact ⟨_, rfl⟩)) ?_
 refine za rfl (zN rfl gH (ev1 rfl)) ?_
 refine za rfl (zN rfl um (ev1 rfl)) ?_
 refine za rfl (gY rfl jg (ev1 rfl) rfl) ?_
 refine za rfl (qm rfl qg (ev1 rfl)) ?_
 refine zaa 1 rfl ?_
 refine zab ?_
 refine zau ?_
 refine qo (rs1 rfl (qB rfl)) rfl ?_
 rfl
theorem Y5 (e : Int) : DDef Tryz.prog 114 [.loc 0 0] [.flat 34 [.int .i64 e]] none none [.flat 34 [.int .i64 0]] := by
 refine jE (dr := .tup []) (t := 1) (N := 3) 1 (by kernel_rfl) Tryz.func114 rfl rfl rfl (by simp only [fr0, qbh, qbj]; exact rfl) rfl rfl rfl rfl rfl fun s0 hs0 => ?_
 refine za rfl (zak [] [] [] rfl (ev1 rfl) (ec (ev1 rfl) en) rfl rfl (XM) rfl rfl rfl rfl rfl rfl) ?_
 refine zaq rfl (qN rfl kc (ev1 rfl) (ev1 rfl) rfl) ?_
 refine zab ?_
 refine km [0] (qI rfl) rfl rfl ?_ ⟨rfl, trivial⟩
 rfl
theorem Jf (e n : Int) : DDef Tryz.prog 114 [.loc 0 0] [.flat 34 [.int .i64 e]] (some (.ifc 203 (.val (.agg #[.int .i64 n])))) none [.flat 34 [.int .i64 n]] := by
 refine jE (dr := .tup []) (t := 1) (N := 3) 1 (by kernel_rfl) Tryz.func114 rfl rfl rfl (by simp only [fr0, qbh, qbj]; exact rfl) rfl rfl rfl rfl rfl fun s0 hs0 => ?_
 refine za rfl (zak [] [] [] rfl (ev1 rfl) (ec (ev1 rfl) en) rfl rfl (Ho n) rfl rfl rfl rfl rfl rfl) ?_
 refine zaq rfl (qN rfl kc (ev1 rfl) (ev1 rfl) rfl) ?_
 refine zab ?_
 refine km [0] (qI rfl) rfl rfl ?_ ⟨rfl, trivial⟩
 rfl
theorem XP (L : List Int) (hL : okL L) (h15 : L.length ≤ 32768) (v : Vec) (r : List Int) (h : yk L = .ok v r) (hr : r.length ≤ L.length) : DFun Tryz.prog 93 [.slf 1 (L).length ((L).flatMap uc8), .fn (.func 94) [] []] [] (.tup [.val (.agg (c9 v).toArray), .val (.int .i64 ((L.length : Int) - (r.length : Int))), .val (.int .i64 0)]) [] := by
 refine qA (N := 41) 0 (by kernel_rfl) Tryz.func93 rfl rfl rfl (by simp only [fr0, qbh, qbj]; exact rfl) rfl fun s0 hs0 => ?_
 refine qP rfl hs0 ?_
 refine zam 2 ?_
 refine zac ?_
 refine zal rfl (zan 0 rfl wl rfl) ?_
 refine zaa 1 rfl ?_
 refine zal rfl (zan 1 rfl gB rfl) ?_
 refine zab ?_
 refine qD (l0 := [_]) rfl rfl rfl rfl rfl hs0 ?_
 refine za rfl (ki rfl en (ec (ev1 rfl) en)) ?_
 refine zab ⟨_, _, _, 2, ev1 rfl, qbE hs0 (by decide), rfl, ?_⟩
 have hs1 : s0.M.length ≤ 2 := qbE hs0 (by decide)
 refine qO rfl hs0 ?_
 refine zai ?_
 refine zaa 1 rfl ?_
 refine za rfl (qm rfl qg (ev1 rfl)) ?_
 refine za rfl ((vh rfl (ev1 rfl) (ev1 rfl)).cast (d' := .val (.int .i64 (L.length : Int))) (by congr 2; omega)) ?_
 refine zaa 1 rfl ?_
 refine zab ?_
 refine zad ?_
 refine zam 1 ?_
 refine zac ?_
 refine zaa 3 rfl ?_
 refine za rfl ((Vk (j := L.length) rfl qg (ev1 rfl) (ev1 rfl) (ev1 rfl) (fun hp => by first | omega | (simp at hp; omega)) (fun hp => by first | omega | (simp at hp; omega)) (fun hp => by first | omega | (simp at hp; omega)) (fun _ => rfl)).cast (d' := .slf 1 (L).length ((L).flatMap uc8)) (by rw [List.take_length])) ?_
 refine zal rfl (zak [] [] [2] rfl (ev1 rfl) (ec (ev1 rfl) en) rfl rfl (VN L (by have := hL.2; omega)) rfl rfl rfl rfl rfl rfl) ?_
 refine zaa 4 rfl ?_
 refine zaq rfl (qN rfl kc (ev1 rfl) (ev1 rfl) rfl) ?_
 refine zab ?_
 refine zai ?_
 refine za rfl (qx rfl kc (ev1 rfl) rfl rfl) ?_
 refine za rfl (qj rfl (ev1 rfl) (ev1 rfl)) ?_
 refine za rfl (qx rfl kc (ev1 rfl) rfl rfl) ?_
 refine za rfl (zak [] [] [] rfl (ev1 rfl) (ec (ev1 rfl) (ec (ev1 rfl) en)) rfl rfl (xJ _ _ (rfl)) rfl rfl rfl rfl rfl rfl) ?_
 refine zab ?_
 refine zad ?_
 refine zam 1 ?_
 refine zac ?_
 refine zaa 1 rfl ?_
 refine za rfl ((gc (ps := [(0, .tmp 27)]) rfl Aa Ai (ec (ev1 rfl) en) rfl rfl rfl).cast (d' := .agg [.loc 2 0, .val (.int .u64 0), .val (.int .i64 0), .val (.int .u64 0), .val (.int .i64 0), .val (.int .i64 0), .val (.int .i64 0), .val (.int .i64 0), .val (.int .i64 0), .val (.int .i64 0), .val (.int .u8 0), .val (.int .u8 0), .val (.int .u8 0), .val (.int .u8 0), .val (.int .i64 0), .val (.int .i64 0), .val (.slice none 0 0), .val (.int .u64 0), .val (.int .i64 0), .val (.int .u64 0)]) (by kernel_rfl)) ?_
 refine zal rfl (qp 3 rfl (ev1 rfl) rfl) ?_
 refine zaa 1 rfl ?_
 refine zab ?_
 refine zad ?_
 refine jf 3 (KB wkZL) rfl rfl (by simp only [qbp, qbq, zaf, zag, List.map]; exact rfl) ?_
 refine zam 1 ?_
 refine zac ?_
 refine zaa 2 rfl ?_
 refine zal rfl (zak [3, 2] [] [] rfl (ev1 rfl) (ec (ev1 rfl) en) rfl rfl (Y3 zO L hL v r h) rfl rfl rfl rfl rfl rfl) ?_
 refine zal rfl (zan 4 rfl wl rfl) ?_
 refine zaq rfl (qr rfl jx (ev1 rfl) (ev1 rfl) rfl rfl rfl rfl) ?_
 refine zab ?_
 refine zad ?_
 refine qh [([4], []), ([], []), ([], []), ([], []), ([], []), ([3], []), ([2], []), ([], []), ([0], [0]), ([], []), ([1], [1])] qJ (by kernel_rfl) ?_
 refine zae rfl rfl (qL rfl jx (ev1 rfl) rfl rfl) ?_
 refine zae rfl rfl (zaj (.inl rfl) (ev1 rfl)) ?_
 refine zae rfl rfl (zaj (.inl rfl) (ev1 rfl)) ?_
 refine zae rfl rfl (qC rfl (ev1 rfl) (fun s v h => by cases h; exact ⟨_, rfl⟩)) ?_
 refine zae rfl rfl (zas rfl wj (ev1 rfl)) ?_
 refine zae rfl rfl (zat rfl gA (ev1 rfl) rfl rfl) ?_
 refine zae rfl rfl (zak [] [2] [] rfl (ev1 rfl) (ec (ev1 rfl) en) rfl rfl (XO r 0) rfl rfl rfl rfl rfl rfl) ?_
 refine zae rfl rfl (je rfl (ev1 rfl) (ev1 rfl) (fun _ => qbg _ (by omega))) ?_
 refine jq rfl rfl (qr rfl jx (ev1 rfl) (ev1 rfl) rfl rfl rfl rfl) rfl (by simp only [upd, zaf, zag]; exact rfl) ?_
 refine zae rfl rfl (zaj (.inr rfl) (ev1 rfl)) ?_
 refine jq rfl rfl (qN rfl kc (ev1 rfl) (ev1 rfl) rfl) rfl (by simp only [upd, zaf, zag]; exact rfl) ?_
 refine ql ?_
 refine zau ?_
 refine gq (kU [1] [] rfl rfl (Y5 _) rfl rfl rfl rfl rfl) ?_
 refine qo (rs3 rfl (gy jx rfl rfl rfl) (qB rfl) (j4 kc rfl rfl rfl)) rfl ?_
 rfl
theorem WP (L : List Int) (hL : okL L) (h15 : L.length ≤ 32768) (e : Int) (hp : DPan Tryz.prog 94 [.loc 0 0] [.mix 178 (.loc 1 0 :: opD zO), .mix 206 [.slf 1 (L).length ((L).flatMap uc8), .val (.int .i64 0)]] (.ifc 203 (.val (.agg #[.int .i64 e]))) [.gone, .gone]) : DFun Tryz.prog 93 [.slf 1 (L).length ((L).flatMap uc8), .fn (.func 94) [] []] [] (.tup [.val (.agg (c9 z9).toArray), .val (.int .i64 0), .val (.int .i64 e)]) [] := by
 refine qA (N := 41) 0 (by kernel_rfl) Tryz.func93 rfl rfl rfl (by simp only [fr0, qbh, qbj]; exact rfl) rfl fun s0 hs0 => ?_
 refine qP rfl hs0 ?_
 refine zam 2 ?_
 refine zac ?_
 refine zal rfl (zan 0 rfl wl rfl) ?_
 refine zaa 1 rfl ?_
 refine zal rfl (zan 1 rfl gB rfl) ?_
 refine zab ?_
 refine qD (l0 := [_]) rfl rfl rfl rfl rfl hs0 ?_
 refine za rfl (ki rfl en (ec (ev1 rfl) en)) ?_
 refine zab ⟨_, _, _, 2, ev1 rfl, qbE hs0 (by decide), rfl, ?_⟩
 have hs1 : s0.M.length ≤ 2 := qbE hs0 (by decide)
 refine qO rfl hs0 ?_
 refine zai ?_
 refine zaa 1 rfl ?_
 refine za rfl (qm rfl qg (ev1 rfl)) ?_
 refine za rfl ((vh rfl (ev1 rfl) (ev1 rfl)).cast (d' := .val (.int .i64 (L.length : Int))) (by congr 2; omega)) ?_
 refine zaa 1 rfl ?_
 refine zab ?_
 refine zad ?_
 refine zam 1 ?_
 refine zac ?_
 refine zaa 3 rfl ?_
 refine za rfl ((Vk (j := L.length) rfl qg (ev1 rfl) (ev1 rfl) (ev1 rfl) (fun hp => by first | omega | (simp at hp; omega)) (fun hp => by first | omega | (simp at hp; omega)) (fun hp => by first | omega | (simp at hp; omega)) (fun _ => rfl)).cast (d' := .slf 1 (L).length ((L).flatMap uc8)) (by rw [List.take_length])) ?_
 refine zal rfl (zak [] [] [2] rfl (ev1 rfl) (ec (ev1 rfl) en) rfl rfl (VN L (by have := hL.2; omega)) rfl rfl rfl rfl rfl rfl) ?_
 refine zaa 4 rfl ?_
 refine zaq rfl (qN rfl kc (ev1 rfl) (ev1 rfl) rfl) ?_
 refine zab ?_
 refine zai ?_
 refine za rfl (qx rfl kc (ev1 rfl) rfl rfl) ?_
 refine za rfl (qj rfl (ev1 rfl) (ev1 rfl)) ?_
 refine za rfl (qx rfl kc (ev1 rfl) rfl rfl) ?_
 refine za rfl (zak [] [] [] rfl (ev1 rfl) (ec (ev1 rfl) (ec (ev1 rfl) en)) rfl rfl (xJ _ _ (rfl)) rfl rfl rfl rfl rfl rfl) ?_
 refine zab ?_
 refine zad ?_
 refine zam 1 ?_
 refine zac ?_
 refine zaa 1 rfl ?_
 refine za rfl ((gc (ps := [(0, .tmp 27)]) rfl Aa Ai (ec (ev1 rfl) en) rfl rfl rfl).cast (d' := .agg [.loc 2 0, .val (.int .u64 0), .val (.int .i64 0), .val (.int .u64 0), .val (.int .i64 0), .val (.int .i64 0), .val (.int .i64 0), .val (.int .i64 0), .val (.int .i64 0), .val (.int .i64 0), .val (.int .u8 0), .val (.int .u8 0), .val (.int .u8 0), .val (.int .u8 0), .val (.int .i64 0), .val (.int .i64 0), .val (.slice none 0 0), .val (.int .u64 0), .val (.int .i64 0), .val (.int .u64 0)]) (by kernel_rfl)) ?_
 refine zal rfl (qp 3 rfl (ev1 rfl) rfl) ?_
 refine zaa 1 rfl ?_
 refine zab ?_
 refine zad ?_
 refine jf 3 (KB wkZL) rfl rfl (by simp only [qbp, qbq, zaf, zag, List.map]; exact rfl) ?_
 refine zam 1 ?_
 refine zac ?_
 refine zaa 2 rfl ?_
 refine kz rfl (qQ [3, 2] [] [] rfl (ev1 rfl) (ec (ev1 rfl) en) rfl rfl (hp) rfl rfl rfl rfl rfl rfl) rfl ?_
 refine gq (qZ [1] [] rfl rfl rfl (Jf _ _) rfl rfl rfl rfl rfl) ?_
 refine qo (rs3 rfl (gy jx rfl rfl rfl) (qB rfl) (j4 kc rfl rfl rfl)) rfl ?_
 rfl
theorem vI (L : List Int) (hL : okL L) (h15 : L.length ≤ 32768) (v : Vec) (r : List Int) (h : yk L = .ok v r) (hr : r.length ≤ L.length) : DFun Tryz.prog 58 [.slf 1 (L).length ((L).flatMap uc8)] [] (.tup [.val (.agg (c9 v).toArray), .val (.int .i64 ((L.length : Int) - (r.length : Int))), .val (.int .i64 0)]) [] := by
 refine zap (N := 10) 0 (by kernel_rfl) Tryz.func58 rfl rfl rfl (by simp only [fr0, qbh, qbj]; exact rfl) rfl fun s0 hs0 => ?_
 refine ko (t := 0) rfl fun hl0 hL0 => ?_
 refine zad ?_
 refine zam 1 ?_
 refine zac ?_
 refine zal rfl (zan 0 rfl wl rfl) ?_
 refine zaa 2 rfl ?_
 refine zab ?_
 refine zai ?_
 refine zaa 1 rfl ?_
 refine za rfl (zak [] [] [] rfl (ev1 rfl) (ec (ev1 rfl) (ec (ev1 rfl) en)) rfl rfl (XP L hL h15 v r h hr) rfl rfl rfl rfl rfl rfl) ?_
 refine zaa 3 rfl ?_
 refine zaq rfl (qr rfl jx (ev1 rfl) (ev1 rfl) rfl rfl rfl rfl) ?_
 refine zaa 2 rfl ?_
 refine zab ?_
 refine zau ?_
 refine qo (rs3 rfl (gy jx rfl rfl rfl) (qB rfl) (qB rfl)) rfl ?_
 rfl
theorem KV (L : List Int) (hL : okL L) (h15 : L.length ≤ 32768) (e : Int) (hp : DPan Tryz.prog 94 [.loc 0 0] [.mix 178 (.loc 1 0 :: opD zO), .mix 206 [.slf 1 (L).length ((L).flatMap uc8), .val (.int .i64 0)]] (.ifc 203 (.val (.agg #[.int .i64 e]))) [.gone, .gone]) : DFun Tryz.prog 58 [.slf 1 (L).length ((L).flatMap uc8)] [] (.tup [.val (.agg (c9 z9).toArray), .val (.int .i64 0), .val (.int .i64 e)]) [] := by
 refine zap (N := 10) 0 (by kernel_rfl) Tryz.func58 rfl rfl rfl (by simp only [fr0, qbh, qbj]; exact rfl) rfl fun s0 hs0 => ?_
 refine ko (t := 0) rfl fun hl0 hL0 => ?_
 refine zad ?_
 refine zam 1 ?_
 refine zac ?_
 refine zal rfl (zan 0 rfl wl rfl) ?_
 refine zaa 2 rfl ?_
 refine zab ?_
 refine zai ?_
 refine zaa 1 rfl ?_
 refine za rfl (zak [] [] [] rfl (ev1 rfl) (ec (ev1 rfl) (ec (ev1 rfl) en)) rfl rfl (WP L hL h15 e hp) rfl rfl rfl rfl rfl rfl) ?_
 refine zaa 3 rfl ?_
 refine zaq rfl (qr rfl jx (ev1 rfl) (ev1 rfl) rfl rfl rfl rfl) ?_
 refine zaa 2 rfl ?_
 refine zab ?_
 refine zau ?_
 refine qo (rs3 rfl (gy jx rfl rfl rfl) (qB rfl) (qB rfl)) rfl ?_
 rfl
theorem Jg (L : List Int) (hL : okL L) (h15 : L.length ≤ 32768) (e : Int) (h : yk L = .err e) : DFun Tryz.prog 58 [.slf 1 (L).length ((L).flatMap uc8)] [] (.tup [.val (.agg (c9 z9).toArray), .val (.int .i64 0), .val (.int .i64 e)]) [] := KV L hL h15 e (Y4 zO L hL e h)
end Go.Proofs.YtofklkbfkoliiaaGreat
namespace Go.Proofs.YtofklkbfkoliiaaGreat
set_option linter.unusedVariables false
set_option linter.unusedSimpArgs false
open Go.RowKit
def C4.rng (c : C4) : Prop := (0 ≤ c.r ∧ c.r ≤ 255) ∧ (0 ≤ c.g ∧ c.g ≤ 255) ∧ (0 ≤ c.b ∧ c.b ≤ 255) ∧ 0 ≤ c.a ∧ c.a ≤ 255
theorem WQ (t : TL) : 0 < (kA t).length := by
 obtain ⟨n, _, bs, e⟩ := zw t
 rw [e]; simp
theorem WR {t : TL} (ht : ∀ c ∈ t.l, c.rng) : isB (kA t) := by
 intro z hz
 unfold kA kI at hz
 obtain ⟨r, hr, hz⟩ := List.mem_flatMap.1 hz
 have hc : r.2 ∈ t.l := by
  rw [← jS t.l]
  unfold kV
  refine List.mem_flatMap.2 ⟨r, hr, ?_⟩
  have := gQ (y7 t.l) r hr
  exact List.mem_replicate.2 ⟨by omega, rfl⟩
 have hn : r.1 ≤ 64 := by
  have h1 : (qbs r.1 r.2).length ≤ (kV (qX t.l)).length := by
   obtain ⟨i, hi, rfl⟩ := List.getElem_of_mem hr
   have := VJ hi
   rw [qbv]; omega
  rw [jS, t.h, qbv] at h1
  exact h1
 have hr2 := ht _ hc
 unfold C4.rng at hr2
 unfold YM at hz
 simp only [List.mem_cons, List.not_mem_nil, or_false] at hz
 rcases hz with rfl | rfl | rfl | rfl | rfl <;> omega
theorem Hs {a b : List Int} (ha : isB a) (hb : isB b) : isB (a ++ b) := fun z hz => (List.mem_append.1 hz).elim (ha z) (hb z)
theorem yb {a : List Int} (ha : isB a) (n : Nat) : isB (a.take n) := fun z hz => ha z (List.mem_of_mem_take hz)
end Go.Proofs.YtofklkbfkoliiaaGreat
namespace Go.Proofs.YtofklkbfkoliiaaGreat
set_option linter.unusedVariables false
set_option linter.unusedSimpArgs false
open Go.RowKit
def vu (ts : List TL) : Prop := ∀ t ∈ ts, ∀ c ∈ t.l, c.rng
theorem KW {kn : List TL → TL} : ∀ {ts acc : List TL}, vu ts → isB (qM kn acc ts)
 | [], _, _ => by rw [wo]; intro z hz; cases hz
 | t :: ts, acc, h => by
  rw [qM]
  refine Hs ?_ (KW fun u hu => h u (qbT _ hu))
  split
  ·intro z hz; simp at hz; subst hz; decide
  ·exact WR (h t (qbR ..))
theorem wq {w h : Int} {ts : List TL} (hr : kR w h ts = true) : w * h = (ts.length : Int) ∧ ts.length ≤ 16 ∧ jV w h = true ∧ (1 ≤ w ∧ w ≤ 4) ∧ 1 ≤ h ∧ h ≤ 4 := by
 have hm := zd hr
 have hb := wg hm
 have hc := KH hm
 unfold kR at hr
 rw [qbi] at hr
 have := of_decide_eq_true hr.2
 exact ⟨by omega, by omega, hm, by omega, by omega⟩
theorem JW (kn : List TL → TL) (w h : Int) (ts : List TL) (rest : List Int) : jk kn ((w :: h :: qM kn [] ts) ++ rest) ts.length [] 2 = some (ts, (w :: h :: qM kn [] ts).length) := by
 have e := zU kn ((w :: h :: qM kn [] ts) ++ rest) ts.length [] 2 (by simp)
 have e1 : ((w :: h :: qM kn [] ts) ++ rest).drop 2 = qM kn [] ts ++ rest := rfl
 rw [e1, zb] at e
 cases hx : jk kn ((w :: h :: qM kn [] ts) ++ rest) ts.length [] 2 with
 | none => rw [hx] at e; cases e
 | some x =>
  obtain ⟨l, q⟩ := x
  obtain ⟨_, _, h3⟩ := vW (by simp) hx
  rw [hx] at e
  have e : some ([] ++ ts, rest) = some (l, ((w :: h :: qM kn [] ts) ++ rest).drop q) := e
  obtain ⟨g1, g2⟩ := Prod.mk.inj (qbn e)
  have := congrArg List.length g2
  rw [qbF] at this
  rw [qbf] at h3 this
  rw [show q = (w :: h :: qM kn [] ts).length by omega, ← g1]
  rfl
end Go.Proofs.YtofklkbfkoliiaaGreat
namespace Go.Proofs.YtofklkbfkoliiaaGreat
set_option linter.unusedVariables false
set_option linter.unusedSimpArgs false
open Go.RowKit
theorem QU {kn : List TL → TL} {B : List Int} {n : Nat} {us : List TL} {q : Nat} (h2 : 2 ≤ B.length) (h : jk kn B n [] 2 = some (us, q)) : us.length = n ∧ B.drop 2 = qM kn [] us ++ B.drop q ∧ q ≤ B.length := by
 have e := zU kn B n [] 2 h2
 rw [h] at e
 obtain ⟨ts, g1, g2, g3⟩ := rdTs_iff.1 (show Je kn n [] (B.drop 2) = some (us, B.drop q) from e)
 rw [qbq] at g2
 subst g2
 exact ⟨g1, g3, (vW h2 h).2.2⟩
theorem QV {kn : List TL → TL} {B : List Int} {n : Nat} {us : List TL} {q : Nat} (h2 : 2 ≤ B.length) (h : jk kn B n [] 2 = some (us, q)) : B.take q = bAt B 0 :: bAt B 1 :: qM kn [] us ∧ q = (bAt B 0 :: bAt B 1 :: qM kn [] us).length := by
 obtain ⟨_, g2, g3⟩ := QU h2 h
 have hB : B = (bAt B 0 :: bAt B 1 :: qM kn [] us) ++ B.drop q := by
  have h0 : B = bAt B 0 :: bAt B 1 :: B.drop 2 := by
   have h1 := jt (B := B) (p := 0) (by omega)
   rw [jt (p := 0 + 1) (by omega)] at h1
   exact h1
  rw [qbp, qbp, ← g2]
  exact h0
 have hl := congrArg List.length hB
 rw [qbf, qbF] at hl
 have hq : q = (bAt B 0 :: bAt B 1 :: qM kn [] us).length := by omega
 refine ⟨?_, hq⟩
 have h1 := congrArg (List.take q) hB
 rw [h1, hq, List.take_left']
 rfl
theorem JX {B : List Int} {n : Nat} {us : List TL} {q : Nat} (h2 : 2 ≤ B.length) (h : jk qy B n [] 2 = some (us, q)) : B.take q = qT (bAt B 0) (bAt B 1) us := (QV h2 h).1
theorem JY (kn : List TL → TL) : ∀ (ts acc : List TL), ts.length ≤ (qM kn acc ts).length
 | [], _ => by rw [wo]; exact qby _
 | t :: ts, acc => by
  have h1 := JY kn ts (acc ++ [t])
  have h2 := WQ t
  rw [qM, qbf, qbC]
  split
  ·simp; omega
  ·omega
theorem XQ (a b : Int) (ts : List TL) : 2 + ts.length ≤ (qT a b ts).length ∧ (qT a b ts).length ≤ 2 + ts.length * 320 := by
 have h1 := JY qy ts []
 have h2 := wn qy ts []
 have hl : (qT a b ts).length = (qM qy [] ts).length + 2 := rfl
 omega
theorem XR {a b : Int} {ts : List TL} (hr : kR a b ts = true) (h : vu ts) : isB (qT a b ts) := by
 obtain ⟨_, _, _, h1, h2⟩ := wq hr
 intro z hz
 rcases List.mem_cons.1 (show z ∈ a :: b :: qM qy [] ts from hz) with rfl | hz
 ·omega
 rcases List.mem_cons.1 hz with rfl | hz
 ·omega
 exact KW h z hz
def Jh (B : List Int) : Prop := ¬ (0 + 2 ≤ B.length ∧ jV (bAt B 0) (bAt B 1) = true ∧ (jk qy B (bAt B 0 * bAt B 1).toNat [] 2).isSome = true)
theorem KX {w h : Int} (hm : jV w h = true) : w * h = ((w * h).toNat : Int) ∧ (w * h).toNat ≤ 16 := by
 have := wg hm
 omega
theorem qaL (B : List Int) (hB : B.length ≤ 4000000000000000000) (hi : isB B) (hx : Jh B) : DFun Tryz.prog 59 [.slf 1 (B).length ((B).flatMap uc8)] [] (.tup [.val (.agg #[.int .i64 0, .int .i64 0, .slice none 0 0]), .val (.int .i64 0), .val (.int .i64 200)]) [] := by
 by_cases h2 : 0 + 2 ≤ B.length
 ·cases hm : jV (bAt B 0) (bAt B 1) with
  | false => exact qat B hB hi h2 hm
  | true =>
   cases h0 : jk qy B (bAt B 0 * bAt B 1).toNat [] 2 with
   | none => exact qar B hB hi _ h2 hm (KX hm).1 h0
   | some x => exact absurd ⟨h2, hm, by rw [h0]; rfl⟩ hx
 ·exact qas B hB hi h2
end Go.Proofs.YtofklkbfkoliiaaGreat
namespace Go.Proofs.YtofklkbfkoliiaaGreat
set_option linter.unusedVariables false
set_option linter.unusedSimpArgs false
open Go.RowKit
attribute [local irreducible] tkN k6 kw
theorem fl125 : fdL Tryz.prog 125 = some [(0, 1)] := by kernel_rfl
theorem Ht : fdO Tryz.prog 125 0 = some 0 := by kernel_rfl
theorem XS : niF Tryz.prog 125 = true := by kernel_rfl
theorem Aq : tyB Tryz.prog 125 = some (true, 1) := by kernel_rfl
theorem Ar : tyB Tryz.prog 150 = some (true, 2) := by kernel_rfl
theorem XT : zrC Tryz.prog 125 = some [.int .i64 0] := by kernel_rfl
theorem zv125 : zrV Tryz.prog 125 = some (.agg #[.int .i64 0]) := by kernel_rfl
theorem vY : DFun Tryz.prog 46 [.val .nilIface] [] (.val (.int .i64 0)) [] := by
 refine zap (N := 13) 0 (by kernel_rfl) Tryz.func46 rfl rfl rfl (by simp only [fr0, qbh, qbj]; exact rfl) rfl fun s0 hs0 => ?_
 refine zai ?_
 refine zaa 1 rfl ?_
 refine zab ?_
 refine zad ?_
 refine zad ?_
 refine zam 1 ?_
 refine zac ?_
 refine zaa 1 rfl ?_
 refine za rfl (Gr rfl XS zv125 (ev1 rfl)) ?_
 refine zaa 3 rfl ?_
 refine zal rfl (zan 0 rfl XT rfl) ?_
 refine zaq rfl (qr rfl Aq (ev1 rfl) (ev1 rfl) rfl rfl rfl rfl) ?_
 refine zaa 1 rfl ?_
 refine zab ?_
 refine zai ?_
 refine zaa 1 rfl ?_
 refine zab ?_
 refine qf rfl (rfl) ?_
 refine zao ?_
 refine zai ?_
 refine zaa 1 rfl ?_
 refine zab ?_
 refine zau ?_
 refine qo (rs1 rfl (qB rfl)) rfl ?_
 rfl
theorem xK (n : Int) : DFun Tryz.prog 46 [.ifc 125 (.val (.agg #[.int .i64 n]))] [] (.val (.int .i64 n)) [] := by
 refine zap (N := 13) 0 (by kernel_rfl) Tryz.func46 rfl rfl rfl (by simp only [fr0, qbh, qbj]; exact rfl) rfl fun s0 hs0 => ?_
 refine zai ?_
 refine zaa 1 rfl ?_
 refine zab ?_
 refine zad ?_
 refine zad ?_
 refine zam 1 ?_
 refine zac ?_
 refine zaa 1 rfl ?_
 refine za rfl (Gq rfl XS (ev1 rfl)) ?_
 refine zaa 3 rfl ?_
 refine zal rfl (zan 0 rfl XT rfl) ?_
 refine zaq rfl (qr rfl Aq (ev1 rfl) (ev1 rfl) rfl rfl rfl rfl) ?_
 refine zaa 1 rfl ?_
 refine zab ?_
 refine zai ?_
 refine zaa 1 rfl ?_
 refine zab ?_
 refine qt rfl (rfl) ?_
 refine zai ?_
 refine za rfl (zas rfl Ht (ev1 rfl)) ?_
 refine za rfl (qx rfl kc (ev1 rfl) rfl rfl) ?_
 refine zaa 1 rfl ?_
 refine zab ?_
 refine zau ?_
 refine qo (rs1 rfl (qB rfl)) rfl ?_
 rfl
theorem ky (b : Bool) (e : Int) (h : b = true) : DFun Tryz.prog 47 [.val (.bool b), .val (.int .i64 e)] [] (.tup []) [] := by
 refine zap (N := 9) 0 (by kernel_rfl) Tryz.func47 rfl rfl rfl (by simp only [fr0, qbh, qbj]; exact rfl) rfl fun s0 hs0 => ?_
 refine zai ?_
 refine zaa 1 rfl ?_
 refine za rfl (ku rfl (ev1 rfl)) ?_
 refine zab ?_
 refine qf rfl (by rw [h]; rfl) ?_
 refine zao ?_
 refine qo (qI rfl) rfl ?_
 rfl
theorem yc (b : Bool) (e : Int) (h : b = false) : DPan Tryz.prog 47 [.val (.bool b), .val (.int .i64 e)] [] (.ifc 125 (.val (.agg #[.int .i64 e]))) [] := by
 refine zap (N := 9) 0 (by kernel_rfl) Tryz.func47 rfl rfl rfl (by simp only [fr0, qbh, qbj]; exact rfl) rfl fun s0 hs0 => ?_
 refine zai ?_
 refine zaa 1 rfl ?_
 refine za rfl (ku rfl (ev1 rfl)) ?_
 refine zab ?_
 refine qt rfl (by rw [h]; rfl) ?_
 refine zac ?_
 refine zaa 1 rfl ?_
 refine za rfl (kJ (ps := [(0, .tmp 6)]) rfl fl125 XT (vc (ev1 rfl) vn) rfl rfl) ?_
 refine za rfl (zr rfl XS (ev1 rfl)) ?_
 refine kz rfl (wM rfl (ev1 rfl)) rfl ?_
 refine Um rfl ?_
 rfl
theorem KY (l : List Int) : DFun Tryz.prog 48 [.slf 1 (l).length ((l).flatMap uc8), .val (.int .i64 0)] [] (.slf 1 (l).length ((l).flatMap uc8)) [] := by
 refine zap (N := 10) 0 (by kernel_rfl) Tryz.func48 rfl rfl rfl (by simp only [fr0, qbh, qbj]; exact rfl) rfl fun s0 hs0 => ?_
 refine ko (t := 0) rfl fun hl0 hL0 => ?_
 refine zai ?_
 refine zaa 1 rfl ?_
 refine zab ?_
 refine zai ?_
 refine zaa 1 rfl ?_
 refine za rfl (qj rfl (ev1 rfl) (ev1 rfl)) ?_
 refine zaa 1 rfl ?_
 refine za rfl (zak [] [] [] rfl (ev1 rfl) (ec (ev1 rfl) (ec (ev1 rfl) en)) rfl rfl (ky _ _ (rfl)) rfl rfl rfl rfl rfl rfl) ?_
 refine zab ?_
 refine zai ?_
 refine zaa 2 rfl ?_
 refine zab ?_
 refine zau ?_
 refine qo (rs1 rfl (qB rfl)) rfl ?_
 rfl
theorem yd (n : Int) : DFun Tryz.prog 56 [.val (.int .u64 n), .val (.int .i64 0)] [] (.val (.int .u64 n)) [] := by
 refine zap (N := 10) 0 (by kernel_rfl) Tryz.func56 rfl rfl rfl (by simp only [fr0, qbh, qbj]; exact rfl) rfl fun s0 hs0 => ?_
 refine zai ?_
 refine zaa 1 rfl ?_
 refine zab ?_
 refine zai ?_
 refine zaa 1 rfl ?_
 refine za rfl (qj rfl (ev1 rfl) (ev1 rfl)) ?_
 refine zaa 1 rfl ?_
 refine za rfl (zak [] [] [] rfl (ev1 rfl) (ec (ev1 rfl) (ec (ev1 rfl) en)) rfl rfl (ky _ _ (rfl)) rfl rfl rfl rfl rfl rfl) ?_
 refine zab ?_
 refine zai ?_
 refine zaa 2 rfl ?_
 refine zab ?_
 refine zau ?_
 refine qo (rs1 rfl (qB rfl)) rfl ?_
 rfl
theorem Y6 (n e : Int) (h : (e == 0) = false) : DPan Tryz.prog 56 [.val (.int .u64 n), .val (.int .i64 e)] [] (.ifc 125 (.val (.agg #[.int .i64 e]))) [] := by
 refine zap (N := 10) 0 (by kernel_rfl) Tryz.func56 rfl rfl rfl (by simp only [fr0, qbh, qbj]; exact rfl) rfl fun s0 hs0 => ?_
 refine zai ?_
 refine zaa 1 rfl ?_
 refine zab ?_
 refine zai ?_
 refine zaa 1 rfl ?_
 refine za rfl (qj rfl (ev1 rfl) (ev1 rfl)) ?_
 refine zaa 1 rfl ?_
 refine kz rfl (qQ [] [] [] rfl (ev1 rfl) (ec (ev1 rfl) (ec (ev1 rfl) en)) rfl rfl (yc _ _ (h)) rfl rfl rfl rfl rfl rfl) rfl ?_
 refine Um rfl ?_
 rfl
theorem qaM : DFun Tryz.prog 83 [.slf 1 ([8, 8]).length (([8, 8]).flatMap ic)] [] (.val (.int .i64 16)) [] := by
 refine zap (N := 17) 0 (by kernel_rfl) Tryz.func83 rfl rfl rfl (by simp only [fr0, qbh, qbj]; exact rfl) rfl fun s0 hs0 => ?_
 refine ko (t := 0) rfl fun hl0 hL0 => ?_
 refine zai ?_
 refine zaa 1 rfl ?_
 refine zab ?_
 refine zai ?_
 refine zaa 1 rfl ?_
 refine zab ?_
 refine zad ?_
 refine zai ?_
 refine zaa 1 rfl ?_
 refine za rfl (qm rfl uT (ev1 rfl)) ?_
 refine zaa 1 rfl ?_
 refine zab ?_
 refine zav ?_
 refine vP (k5 ?_)
 refine zai ?_
 refine za rfl (qq rfl (ev1 rfl) (ev1 rfl)) ?_
 refine zab ?_
 refine zad ?_
 refine qt rfl (rfl) ?_
 refine zao ?_
 refine zad ?_
 refine zav ?_
 refine zai ?_
 refine za rfl (qu (l := ([8, 8] : List Int)) (en := ic) (j := 0) rfl uT (ev1 rfl) (ev1 rfl) (fun _ => rfl) (by decide) rfl (qbP (qbr rfl))) ?_
 refine za rfl ((qk rfl tb3 (ev1 rfl) rfl).cast (d' := .val (.int .i64 8)) (by rfl)) ?_
 refine zaa 1 rfl ?_
 refine zab ?_
 refine zac ?_
 refine zaa 2 rfl ?_
 refine za rfl (qc rfl (ev1 rfl) (ev1 rfl) (fun _ => qbg _ (by omega))) ?_
 refine zaa 1 rfl ?_
 refine zab ?_
 refine zac ?_
 refine za rfl (qc rfl (ev1 rfl) (ev1 rfl) (fun _ => qbg _ (by omega))) ?_
 refine zaa 1 rfl ?_
 refine zab ?_
 refine k5 ?_
 refine zai ?_
 refine za rfl (qq rfl (ev1 rfl) (ev1 rfl)) ?_
 refine zab ?_
 refine zad ?_
 refine qt rfl (rfl) ?_
 refine zao ?_
 refine zad ?_
 refine zav ?_
 refine zai ?_
 refine za rfl (qu (l := ([8, 8] : List Int)) (en := ic) (j := 1) rfl uT (ev1 rfl) (ev1 rfl) (fun _ => rfl) (by decide) rfl (qbP (qbr rfl))) ?_
 refine za rfl ((qk rfl tb3 (ev1 rfl) rfl).cast (d' := .val (.int .i64 8)) (by rfl)) ?_
 refine zaa 1 rfl ?_
 refine zab ?_
 refine zac ?_
 refine zaa 2 rfl ?_
 refine za rfl (qc rfl (ev1 rfl) (ev1 rfl) (fun _ => qbg _ (by omega))) ?_
 refine zaa 1 rfl ?_
 refine zab ?_
 refine zac ?_
 refine za rfl (qc rfl (ev1 rfl) (ev1 rfl) (fun _ => qbg _ (by omega))) ?_
 refine zaa 1 rfl ?_
 refine zab ?_
 refine k5 ?_
 refine zai ?_
 refine za rfl (qq rfl (ev1 rfl) (ev1 rfl)) ?_
 refine zab ?_
 refine zad ?_
 refine qf rfl (rfl) ?_
 refine qz ?_
 refine zai ?_
 refine zaa 2 rfl ?_
 refine zab ?_
 refine zau ?_
 refine qo (rs1 rfl (qB rfl)) rfl ?_
 rfl
theorem QW (e : Int) : DDef Tryz.prog 80 [.loc 0 0] [.flat 34 [.int .i64 e]] none none [.flat 34 [.int .i64 0]] := by
 refine jE (dr := .tup []) (t := 1) (N := 3) 1 (by kernel_rfl) Tryz.func80 rfl rfl rfl (by simp only [fr0, qbh, qbj]; exact rfl) rfl rfl rfl rfl rfl fun s0 hs0 => ?_
 refine za rfl (zak [] [] [] rfl (ev1 rfl) (ec (ev1 rfl) en) rfl rfl (vU) rfl rfl rfl rfl rfl rfl) ?_
 refine zaq rfl (qN rfl kc (ev1 rfl) (ev1 rfl) rfl) ?_
 refine zab ?_
 refine km [0] (qI rfl) rfl rfl ?_ ⟨rfl, trivial⟩
 rfl
theorem As (w : Nat) (n : Int) (hw : 1 ≤ w ∧ w ≤ 8) (hn : 0 ≤ n ∧ n < (256 ^ w : Nat)) : DFun Tryz.prog 84 [.val (.int .i64 (w : Int)), .val (.int .u64 n)] [] (.slf 1 (kO w n).length ((kO w n).flatMap uc8)) [] := by
 have h := Xa w hw n (XJ hn)
 rw [Y1 hw hn.1] at h
 exact h
theorem Hu (a b : Int) (ha : 0 ≤ a ∧ a < (256 ^ 8 : Nat)) (hb : 0 ≤ b ∧ b < (256 ^ 8 : Nat)) : DFun Tryz.prog 49 [.slf 1 ([8, 8]).length (([8, 8]).flatMap ic), .slf 1 ([a, b]).length (([a, b]).flatMap uc)] [] (.tup [.arr 0, .val (.int .i64 0)]) [.arr 5 1 (kO 8 a ++ kO 8 b).length ((kO 8 a ++ kO 8 b).flatMap uc8)] := by
 refine qA (N := 39) 0 (by kernel_rfl) Tryz.func49 rfl rfl rfl (by simp only [fr0, qbh, qbj]; exact rfl) rfl fun s0 hs0 => ?_
 refine qP rfl hs0 ?_
 refine zam 1 ?_
 refine zac ?_
 refine zaa 1 rfl ?_
 refine zal rfl (zan 0 rfl gB rfl) ?_
 refine zab ?_
 refine qD (l0 := [_]) rfl rfl rfl rfl rfl hs0 ?_
 refine za rfl (ki rfl en (ec (ev1 rfl) en)) ?_
 refine zab ⟨_, _, _, 1, ev1 rfl, qbE hs0 (by decide), rfl, ?_⟩
 have hs1 : s0.M.length ≤ 1 := qbE hs0 (by decide)
 refine qO rfl hs0 ?_
 refine zai ?_
 refine zaa 1 rfl ?_
 refine za rfl (zak [] [] [] rfl (ev1 rfl) (ec (ev1 rfl) en) rfl rfl (vT [8, 8] rfl) rfl rfl rfl rfl rfl rfl) ?_
 refine zab ?_
 refine zad ?_
 refine zai ?_
 refine zaa 1 rfl ?_
 refine za rfl (qm rfl JL (ev1 rfl)) ?_
 refine zaa 1 rfl ?_
 refine za rfl (qm rfl uT (ev1 rfl)) ?_
 refine za rfl (qV rfl (ev1 rfl) (ev1 rfl)) ?_
 refine zab ?_
 refine qf rfl (rfl) ?_
 refine zao ?_
 refine zad ?_
 refine zam 1 ?_
 refine zac ?_
 refine zaa 1 rfl ?_
 refine za rfl (zak [] [] [] rfl (ev1 rfl) (ec (ev1 rfl) en) rfl rfl (qaM) rfl rfl rfl rfl rfl rfl) ?_
 refine zal rfl (AS 1 (16) rfl qg zr5 (ev1 rfl) (ev1 rfl) (fun _ => rfl) (fun _ => by omega) rfl (fun _ => by omega)) ?_
 refine zaa 1 rfl ?_
 refine zab ?_
 refine zad ?_
 refine zai ?_
 refine zaa 1 rfl ?_
 refine za rfl (qm rfl uT (ev1 rfl)) ?_
 refine zaa 1 rfl ?_
 refine zab ?_
 refine zav ?_
 refine vP (k5 ?_)
 refine zai ?_
 refine za rfl (qq rfl (ev1 rfl) (ev1 rfl)) ?_
 refine zab ?_
 refine zad ?_
 refine qt rfl (rfl) ?_
 refine zao ?_
 refine zad ?_
 refine zav ?_
 refine zai ?_
 refine zaa 1 rfl ?_
 refine za rfl (qu (l := ([8, 8] : List Int)) (en := ic) (j := 0) rfl uT (ev1 rfl) (ev1 rfl) (fun _ => rfl) (by decide) rfl (qbP (qbr rfl))) ?_
 refine za rfl ((qk rfl tb3 (ev1 rfl) rfl).cast (d' := .val (.int .i64 8)) (by rfl)) ?_
 refine zaa 2 rfl ?_
 refine zab ?_
 refine zam 1 ?_
 refine zac ?_
 refine zaa 4 rfl ?_
 refine za rfl (qu (l := ([a, b] : List Int)) (en := uc) (j := 0) rfl JL (ev1 rfl) (ev1 rfl) (fun _ => rfl) (by decide) rfl (qbP (qbr rfl))) ?_
 refine za rfl (qk rfl kC (ev1 rfl) rfl) ?_
 refine za rfl (zak [] [] [] rfl (ev1 rfl) (ec (ev1 rfl) (ec (ev1 rfl) en)) rfl rfl (As 8 _ (by decide) (by assumption)) rfl rfl rfl rfl rfl rfl) ?_
 refine zal rfl (jd (j := 2) rfl qg zr5 rfl (ev1 rfl) (ev1 rfl) j9 rfl rfl (fun _ => jF (fun _ => rfl) _) (fun _ => ⟨by simp only [qbf, kP, qbQ]; omega, by simp only [qbf, kP, qbQ]; omega⟩)) ?_
 refine zaa 1 rfl ?_
 refine zab ?_
 refine zac ?_
 refine za rfl (qc rfl (ev1 rfl) (ev1 rfl) (fun _ => qbg _ (by omega))) ?_
 refine zaa 1 rfl ?_
 refine zab ?_
 refine k5 ?_
 refine zai ?_
 refine za rfl (qq rfl (ev1 rfl) (ev1 rfl)) ?_
 refine zab ?_
 refine zad ?_
 refine qt rfl (rfl) ?_
 refine zao ?_
 refine zad ?_
 refine zav ?_
 refine zai ?_
 refine zaa 1 rfl ?_
 refine za rfl (qu (l := ([8, 8] : List Int)) (en := ic) (j := 1) rfl uT (ev1 rfl) (ev1 rfl) (fun _ => rfl) (by decide) rfl (qbP (qbr rfl))) ?_
 refine za rfl ((qk rfl tb3 (ev1 rfl) rfl).cast (d' := .val (.int .i64 8)) (by rfl)) ?_
 refine zaa 2 rfl ?_
 refine zab ?_
 refine zam 1 ?_
 refine zac ?_
 refine zaa 4 rfl ?_
 refine za rfl (qu (l := ([a, b] : List Int)) (en := uc) (j := 1) rfl JL (ev1 rfl) (ev1 rfl) (fun _ => rfl) (by decide) rfl (qbP (qbr rfl))) ?_
 refine za rfl (qk rfl kC (ev1 rfl) rfl) ?_
 refine za rfl (zak [] [] [] rfl (ev1 rfl) (ec (ev1 rfl) (ec (ev1 rfl) en)) rfl rfl (As 8 _ (by decide) (by assumption)) rfl rfl rfl rfl rfl rfl) ?_
 refine zal rfl (jd (j := 3) rfl qg zr5 rfl (ev1 rfl) (ev1 rfl) j9 rfl rfl (fun _ => jF (fun _ => rfl) _) (fun _ => ⟨by simp only [qbf, kP, qbQ]; omega, by simp only [qbf, kP, qbQ]; omega⟩)) ?_
 refine zaa 1 rfl ?_
 refine zab ?_
 refine zac ?_
 refine za rfl (qc rfl (ev1 rfl) (ev1 rfl) (fun _ => qbg _ (by omega))) ?_
 refine zaa 1 rfl ?_
 refine zab ?_
 refine k5 ?_
 refine zai ?_
 refine za rfl (qq rfl (ev1 rfl) (ev1 rfl)) ?_
 refine zab ?_
 refine zad ?_
 refine qf rfl (rfl) ?_
 refine qz ?_
 refine zai ?_
 refine zaa 2 rfl ?_
 refine zaq rfl (qN rfl kc (ev1 rfl) (ev1 rfl) rfl) ?_
 refine zab ?_
 refine zau ?_
 refine gq (kU [0] [] rfl rfl (QW _) rfl rfl rfl rfl rfl) ?_
 refine km [3] (rs2 rfl (qB rfl) (j4 kc rfl rfl rfl)) rfl rfl ?_ ⟨?_, trivial⟩
 rfl
 exact jm (by simp [kP]) (by simp [List.flatMap_append])
theorem Hv (a b : Int) (ha : 0 ≤ a ∧ a < (256 ^ 8 : Nat)) (hb : 0 ≤ b ∧ b < (256 ^ 8 : Nat)) : DFun Tryz.prog 49 [.slf 1 2 [.int .i64 8, .int .i64 8], .slf 1 2 [.int .u64 a, .int .u64 b]] [] (.tup [.slf 1 (kO 8 a ++ kO 8 b).length ((kO 8 a ++ kO 8 b).flatMap uc8), .val (.int .i64 0)]) [] := gz (Hu a b ha hb) rfl
theorem QX (e : Int) : DDef Tryz.prog 91 [.loc 0 0] [.flat 34 [.int .i64 e]] none none [.flat 34 [.int .i64 0]] := by
 refine jE (dr := .tup []) (t := 1) (N := 3) 1 (by kernel_rfl) Tryz.func91 rfl rfl rfl (by simp only [fr0, qbh, qbj]; exact rfl) rfl rfl rfl rfl rfl fun s0 hs0 => ?_
 refine za rfl (zak [] [] [] rfl (ev1 rfl) (ec (ev1 rfl) en) rfl rfl (vU) rfl rfl rfl rfl rfl rfl) ?_
 refine zaq rfl (qN rfl kc (ev1 rfl) (ev1 rfl) rfl) ?_
 refine zab ?_
 refine km [0] (qI rfl) rfl rfl ?_ ⟨rfl, trivial⟩
 rfl
theorem GO (e n : Int) : DDef Tryz.prog 91 [.loc 0 0] [.flat 34 [.int .i64 e]] (some (.ifc 130 (.val (.agg #[.int .i64 n])))) none [.flat 34 [.int .i64 n]] := by
 refine jE (dr := .tup []) (t := 1) (N := 3) 1 (by kernel_rfl) Tryz.func91 rfl rfl rfl (by simp only [fr0, qbh, qbj]; exact rfl) rfl rfl rfl rfl rfl fun s0 hs0 => ?_
 refine za rfl (zak [] [] [] rfl (ev1 rfl) (ec (ev1 rfl) en) rfl rfl (zR n) rfl rfl rfl rfl rfl rfl) ?_
 refine zaq rfl (qN rfl kc (ev1 rfl) (ev1 rfl) rfl) ?_
 refine zab ?_
 refine km [0] (qI rfl) rfl rfl ?_ ⟨rfl, trivial⟩
 rfl
theorem yS (l : List Int) (hl : l.length ≤ 2000000) (p : Nat) (h : p + 8 ≤ l.length) : DFun Tryz.prog 57 [.slf 1 (l).length ((l).flatMap uc8), .val (.int .i64 (p : Int)), .val (.int .i64 8)] [] (.tup [.val (.int .u64 (kw 8 (l.drop p))), .val (.int .i64 0)]) [] := by
 refine qA (N := 29) 0 (by kernel_rfl) Tryz.func57 rfl rfl rfl (by simp only [fr0, qbh, qbj]; exact rfl) rfl fun s0 hs0 => ?_
 refine qP rfl hs0 ?_
 refine zam 1 ?_
 refine zac ?_
 refine zaa 1 rfl ?_
 refine zal rfl (zan 0 rfl gB rfl) ?_
 refine zab ?_
 refine qD (l0 := [_]) rfl rfl rfl rfl rfl hs0 ?_
 refine za rfl (ki rfl en (ec (ev1 rfl) en)) ?_
 refine zab ⟨_, _, _, 1, ev1 rfl, qbE hs0 (by decide), rfl, ?_⟩
 have hs1 : s0.M.length ≤ 1 := qbE hs0 (by decide)
 refine qO rfl hs0 ?_
 refine zai ?_
 refine zaa 1 rfl ?_
 refine za rfl (xk (ps := [(0, .tmp 10)]) rfl uT zr3 rfl (vc (ev1 rfl) vn) rfl (by decide) (by decide)) ?_
 refine za rfl (zak [] [] [] rfl (ev1 rfl) (ec (ev1 rfl) en) rfl rfl (vT [8] rfl) rfl rfl rfl rfl rfl rfl) ?_
 refine zab ?_
 refine zad ?_
 refine zai ?_
 refine zaa 1 rfl ?_
 refine za rfl (qq rfl (ev1 rfl) (ev1 rfl)) ?_
 refine zaa 1 rfl ?_
 refine zah (qa rfl rfl rfl) rfl rfl rfl (zaj (.inl rfl) (ev1 rfl)) ?_
 refine zah (qa rfl rfl rfl) rfl rfl rfl (zaj (.inl rfl) (ev1 rfl)) ?_
 refine zah (qa rfl rfl rfl) rfl rfl rfl (qm rfl qg (ev2 rfl)) ?_
 refine zah (qa rfl rfl rfl) rfl rfl rfl (kg rfl (ev2 rfl) (ev2 rfl)) ?_
 refine za rfl (qK rfl (ev1 rfl) (ev3 rfl id)) ?_
 refine zab ?_
 refine qf rfl (by simp; omega) ?_
 refine zao ?_
 refine zad ?_
 refine zam 1 ?_
 refine zac ?_
 refine zaa 2 rfl ?_
 refine za rfl (kY (i := p) rfl qg (ev1 rfl) (qR (ev1 rfl)) (fun _ => by omega) (fun _ => by omega) (fun _ => rfl)) ?_
 refine za rfl (Gz rfl UY YH (ev1 rfl) rfl) ?_
 refine zal rfl (zan 1 rfl YH rfl) ?_
 refine zaq rfl (ka rfl Ar (ev1 rfl) (ev1 rfl) rfl rfl rfl rfl) ?_
 refine zab ?_
 refine zai ?_
 refine zaa 1 rfl ?_
 refine zal rfl (zak [1] [] [] rfl (ev1 rfl) (ec (ev1 rfl) (ec (ev1 rfl) en)) rfl rfl (JP _ (l.drop p) (by rw [qbF]; omega) 0 8 (by rw [qbF]; omega)) rfl rfl rfl rfl rfl rfl) ?_
 refine zaa 1 rfl ?_
 refine zaq rfl (qN rfl kc (ev1 rfl) (ev1 rfl) rfl) ?_
 refine zab ?_
 refine zau ?_
 refine gq (kU [0] [] rfl rfl (QX _) rfl rfl rfl rfl rfl) ?_
 refine qo (rs2 rfl (qB rfl) (j4 kc rfl rfl rfl)) rfl ?_
 rfl
theorem VT (l : List Int) (hl : l.length ≤ 2000000) (p : Nat) (hp : p ≤ l.length) (h : l.length < p + 8) : DFun Tryz.prog 57 [.slf 1 (l).length ((l).flatMap uc8), .val (.int .i64 (p : Int)), .val (.int .i64 8)] [] (.tup [.val (.int .u64 0), .val (.int .i64 110)]) [] := by
 refine qA (N := 29) 0 (by kernel_rfl) Tryz.func57 rfl rfl rfl (by simp only [fr0, qbh, qbj]; exact rfl) rfl fun s0 hs0 => ?_
 refine qP rfl hs0 ?_
 refine zam 1 ?_
 refine zac ?_
 refine zaa 1 rfl ?_
 refine zal rfl (zan 0 rfl gB rfl) ?_
 refine zab ?_
 refine qD (l0 := [_]) rfl rfl rfl rfl rfl hs0 ?_
 refine za rfl (ki rfl en (ec (ev1 rfl) en)) ?_
 refine zab ⟨_, _, _, 1, ev1 rfl, qbE hs0 (by decide), rfl, ?_⟩
 have hs1 : s0.M.length ≤ 1 := qbE hs0 (by decide)
 refine qO rfl hs0 ?_
 refine zai ?_
 refine zaa 1 rfl ?_
 refine za rfl (xk (ps := [(0, .tmp 10)]) rfl uT zr3 rfl (vc (ev1 rfl) vn) rfl (by decide) (by decide)) ?_
 refine za rfl (zak [] [] [] rfl (ev1 rfl) (ec (ev1 rfl) en) rfl rfl (vT [8] rfl) rfl rfl rfl rfl rfl rfl) ?_
 refine zab ?_
 refine zad ?_
 refine zai ?_
 refine zaa 1 rfl ?_
 refine za rfl (qq rfl (ev1 rfl) (ev1 rfl)) ?_
 refine zaa 1 rfl ?_
 refine zah (qa rfl rfl rfl) rfl rfl rfl (zaj (.inl rfl) (ev1 rfl)) ?_
 refine zah (qa rfl rfl rfl) rfl rfl rfl (zaj (.inl rfl) (ev1 rfl)) ?_
 refine zah (qa rfl rfl rfl) rfl rfl rfl (qm rfl qg (ev2 rfl)) ?_
 refine zah (qa rfl rfl rfl) rfl rfl rfl (kg rfl (ev2 rfl) (ev2 rfl)) ?_
 refine za rfl (qK rfl (ev1 rfl) (ev3 rfl id)) ?_
 refine zab ?_
 refine qf rfl (by simp; omega) ?_
 refine zao ?_
 refine zad ?_
 refine zam 1 ?_
 refine zac ?_
 refine zaa 2 rfl ?_
 refine za rfl (kY (i := p) rfl qg (ev1 rfl) (qR (ev1 rfl)) (fun _ => by omega) (fun _ => by omega) (fun _ => rfl)) ?_
 refine za rfl (Gz rfl UY YH (ev1 rfl) rfl) ?_
 refine zal rfl (zan 1 rfl YH rfl) ?_
 refine zaq rfl (ka rfl Ar (ev1 rfl) (ev1 rfl) rfl rfl rfl rfl) ?_
 refine zab ?_
 refine zai ?_
 refine zaa 1 rfl ?_
 refine kz rfl (qQ [1] [] [] rfl (ev1 rfl) (ec (ev1 rfl) (ec (ev1 rfl) en)) rfl rfl (KM _ (l.drop p) 0 8 (by rw [qbF]; omega)) rfl rfl rfl rfl rfl rfl) rfl ?_
 refine gq (qZ [0] [] rfl rfl rfl (GO _ _) rfl rfl rfl rfl rfl) ?_
 refine qo (rs2 rfl (qB rfl) (j4 kc rfl rfl rfl)) rfl ?_
 rfl
end Go.Proofs.YtofklkbfkoliiaaGreat
namespace Go.Proofs.YtofklkbfkoliiaaGreat
set_option linter.unusedVariables false
set_option linter.unusedSimpArgs false
open Go.RowKit
attribute [local irreducible] tkN k6 kw
theorem qaN (n : Nat) (h : n ≤ 100000000) : DFun Tryz.prog 74 [.val (.slice none 0 0), .val (.int .i64 (n : Int))] [] (.arr 0) [.arr 5 1 (0) ((([] : List Int)).flatMap uc8)] := by
 refine zap (N := 27) 0 (by kernel_rfl) Tryz.func74 rfl rfl rfl (by simp only [fr0, qbh, qbj]; exact rfl) rfl fun s0 hs0 => ?_
 refine zai ?_
 refine zaa 1 rfl ?_
 refine zab ?_
 refine zad ?_
 refine zai ?_
 refine zaa 1 rfl ?_
 refine za rfl (qq rfl (ev1 rfl) (ev1 rfl)) ?_
 refine zab ?_
 refine qf rfl (by simp) ?_
 refine zao ?_
 refine zad ?_
 refine zai ?_
 refine zaa 2 rfl ?_
 refine za rfl (Vr rfl qg (ev1 rfl)) ?_
 refine zaa 1 rfl ?_
 refine za rfl (qm rfl qg (Kv 1 (ev1 rfl))) ?_
 refine za rfl (je rfl (ev1 rfl) (ev1 rfl) (fun _ => qbg _ (by decide))) ?_
 refine za rfl (je rfl (ev1 rfl) (ev1 rfl) (fun _ => qbg _ (by simp; omega))) ?_
 refine zaa 1 rfl ?_
 refine zab ?_
 refine zai ?_
 refine zaa 1 rfl ?_
 refine za rfl (kg rfl (ev1 rfl) (ev1 rfl)) ?_
 refine zab ?_
 refine qi rfl (fun c2 => ?_) (fun c2 => ?_)
 ·try simp only [decide_eq_true_eq, decide_eq_false_iff_not, beq_iff_eq, bne_iff_ne, beq_eq_false_iff_ne, bne_eq_false_iff_eq, qbl, qbm, qbi, qbo, qbk, ne_eq, Decidable.not_not, qbz, qbA] at c2
  refine zam 2 ?_
  refine zac ?_
  refine zaa 2 rfl ?_
  refine za rfl (Vr rfl qg (ev1 rfl)) ?_
  refine za rfl (A1 rfl qg (ev1 rfl) (qR (ev1 rfl))) ?_
  refine zaa 1 rfl ?_
  refine zal rfl (A2 (n := n) (j := 0) rfl qg Tryz.underlying3 zr5 rfl (by decide) (ev1 rfl) (ev1 rfl) (fun _ => by simp) (fun _ => by simp at c2; omega) rfl (fun _ => ⟨by omega, by omega⟩)) ?_
  refine zaa 1 rfl ?_
  refine za rfl (qm rfl qg (Kv 1 (ev1 rfl))) ?_
  refine zal rfl (A3 (j := 1) rfl qg (ev1 rfl) rfl (qR (ev1 rfl)) rfl) ?_
  refine zaa 1 rfl ?_
  refine zab ?_
  refine zai ?_
  refine zaa 2 rfl ?_
  refine zab ?_
  refine zau ?_
  refine km [1] (rs1 rfl (qB rfl)) rfl rfl ?_ ⟨rfl, trivial⟩
  rfl
 ·try simp only [decide_eq_true_eq, decide_eq_false_iff_not, beq_iff_eq, bne_iff_ne, beq_eq_false_iff_ne, bne_eq_false_iff_eq, qbl, qbm, qbi, qbo, qbk, ne_eq, Decidable.not_not, qbz, qbA] at c2
  refine zao ?_
  refine zai ?_
  refine zaa 2 rfl ?_
  refine zab ?_
  refine gP 4 5 1 rfl rfl rfl ?_
  refine zau ?_
  refine km [0] (rs1 rfl (qB rfl)) rfl rfl ?_ ⟨rfl, trivial⟩
  rfl
def tkL (ps : List (List Int)) (k : Nat) : Nat := (ps.take k).flatten.length
theorem xL {ps : List (List Int)} {k : Nat} (h : k < ps.length) : tkL ps (k + 1) = tkL ps k + ps[k].length := by
 unfold tkL; rw [qbK h, List.flatten_append, qbf]; simp
theorem VU (ps : List (List Int)) : tkL ps ps.length = ps.flatten.length := by unfold tkL; rw [List.take_length]
theorem GP (ps : List (List Int)) (k : Nat) : tkL ps k ≤ ps.flatten.length := by
 have h : (ps.take k ++ ps.drop k).flatten.length = ps.flatten.length := by rw [List.take_append_drop]
 rw [List.flatten_append, qbf] at h
 unfold tkL
 omega
theorem XU (ps : List (List Int)) (hT : ps.flatten.length ≤ 100000000) : DFun Tryz.prog 36 [.slm 1 (ps).length ((ps).flatMap fun p => [.slf 1 (p).length ((p).flatMap uc8)])] [] (.arr 0) [.arr 5 1 (ps.flatten.length) ((ps.flatten).flatMap uc8)] := by
 refine zap (N := 36) 0 (by kernel_rfl) Tryz.func36 rfl rfl rfl (by simp only [fr0, qbh, qbj]; exact rfl) rfl fun s0 hs0 => ?_
 refine xo (t := 0) rfl fun hl0 hL0 => ?_
 refine zai ?_
 refine zaa 1 rfl ?_
 refine zab ?_
 refine zai ?_
 refine zaa 1 rfl ?_
 refine zab ?_
 refine zad ?_
 refine zai ?_
 refine zaa 1 rfl ?_
 refine za rfl (gG rfl g9 (ev1 rfl)) ?_
 refine zaa 1 rfl ?_
 refine zab ?_
 refine zav ?_
 refine qE ⟨hs0, rfl⟩ (α := Nat) (fun k => [(3, .val (.int .i64 (tkL ps k : Nat))), (11, .val (.int .i64 (k : Int)))]) [(0, _), (9, _), (10, _)] (fun k => []) [] (fun k => k ≤ ps.length) (fun k => ps.length - k) 0 [] (by simp) rfl ⟨rfl, rfl, rfl, trivial⟩ ⟨rfl, rfl, trivial⟩ trivial ?_
 intro k hx
 simp only [upd, zaf, zag, qbp, qbq]
 have hk := hx
 have htk := GP ps k
 refine zai ?_
 refine za rfl (qq rfl (ev1 rfl) (ev1 rfl)) ?_
 refine zab ?_
 refine zad ?_
 refine qi rfl (fun c1 => ?_) (fun c1 => ?_)
 ·try simp only [decide_eq_true_eq, decide_eq_false_iff_not, beq_iff_eq, bne_iff_ne, beq_eq_false_iff_ne, bne_eq_false_iff_eq, qbl, qbm, qbi, qbo, qbk, ne_eq, Decidable.not_not, qbz, qbA] at c1
  refine zao ?_
  refine zad ?_
  refine zav ?_
  refine zai ?_
  refine za rfl (wc (k) rfl g9 (ev1 rfl) (ev1 rfl) (fun _ => rfl) (wP (by omega))) ?_
  refine za rfl (gY rfl jg (ev1 rfl) rfl) ?_
  refine zaa 1 rfl ?_
  refine zab ?_
  refine zad ?_
  have htl := GP ps (k + 1)
  rw [xL (by omega)] at htl
  refine zac ?_
  refine zaa 2 rfl ?_
  refine za rfl (qm rfl qg (ev1 rfl)) ?_
  refine za rfl (qc rfl (ev1 rfl) (ev1 rfl) (fun _ => qbg _ (by omega))) ?_
  refine zaa 1 rfl ?_
  refine zab ?_
  refine zai ?_
  refine zaa 1 rfl ?_
  refine za rfl (qq rfl (ev1 rfl) (ev1 rfl)) ?_
  refine zab ?_
  refine qf rfl (by simp; omega) ?_
  refine zao ?_
  refine zac ?_
  refine za rfl (qc rfl (ev1 rfl) (ev1 rfl) (fun _ => qbg _ (by omega))) ?_
  refine zaa 1 rfl ?_
  refine zab ?_
  refine ⟨k + 1, [], by omega, by simp only []; omega, rfl, ⟨by rw [xL (by omega)]; rfl, rfl, rfl, rfl, rfl, trivial⟩, trivial⟩
 ·try simp only [decide_eq_true_eq, decide_eq_false_iff_not, beq_iff_eq, bne_iff_ne, beq_eq_false_iff_ne, bne_eq_false_iff_eq, qbl, qbm, qbi, qbo, qbk, ne_eq, Decidable.not_not, qbz, qbA] at c1
  refine qz ?_
  refine zad ?_
  obtain rfl : k = ps.length := by omega
  rw [VU]
  refine zam 1 ?_
  refine zac ?_
  refine zaa 1 rfl ?_
  refine zal rfl (zak [] [] [0] rfl (ev1 rfl) (ec (ev1 rfl) (ec (ev1 rfl) en)) rfl rfl (qaN _ hT) rfl rfl rfl rfl rfl rfl) ?_
  refine zaa 1 rfl ?_
  refine zab ?_
  refine zad ?_
  refine zai ?_
  refine zaa 1 rfl ?_
  refine za rfl (gG rfl g9 (ev1 rfl)) ?_
  refine zaa 1 rfl ?_
  refine zab ?_
  refine zav ?_
  refine qE ⟨hs0, rfl⟩ (α := Nat) (fun k => [(27, .val (.int .i64 (k : Int)))]) [(6, _), (25, _), (26, _)] (fun k => [(0, .arr 5 1 ((tkL ps k)) (((ps.take k).flatten).flatMap uc8))]) [.hole] (fun k => k ≤ ps.length) (fun k => ps.length - k) 0 [0] (by simp) rfl ⟨rfl, rfl, rfl, trivial⟩ ⟨rfl, trivial⟩ ⟨rfl, trivial⟩ ?_
  intro k hx
  simp only [upd, zaf, zag, qbp, qbq]
  have hk := hx
  have htk := GP ps k
  refine zai ?_
  refine za rfl (qq rfl (ev1 rfl) (ev1 rfl)) ?_
  refine zab ?_
  refine zad ?_
  refine qi rfl (fun c3 => ?_) (fun c3 => ?_)
  ·try simp only [decide_eq_true_eq, decide_eq_false_iff_not, beq_iff_eq, bne_iff_ne, beq_eq_false_iff_ne, bne_eq_false_iff_eq, qbl, qbm, qbi, qbo, qbk, ne_eq, Decidable.not_not, qbz, qbA] at c3
   refine zao ?_
   refine zad ?_
   refine zav ?_
   refine zai ?_
   refine za rfl (wc (k) rfl g9 (ev1 rfl) (ev1 rfl) (fun _ => rfl) (wP (by omega))) ?_
   refine za rfl (gY rfl jg (ev1 rfl) rfl) ?_
   refine zaa 1 rfl ?_
   refine zab ?_
   have htl := GP ps (k + 1)
   rw [xL (by omega)] at htl
   refine zam 1 ?_
   refine zac ?_
   refine zaa 2 rfl ?_
   refine zal rfl (jd (j := 1) rfl qg zr5 rfl (ev1 rfl) (ev1 rfl) j9 rfl rfl (fun _ => jF (fun _ => rfl) _) (fun _ => ⟨by omega, by omega⟩)) ?_
   refine zaa 1 rfl ?_
   refine zab ?_
   refine zac ?_
   refine za rfl (qc rfl (ev1 rfl) (ev1 rfl) (fun _ => qbg _ (by omega))) ?_
   refine zaa 1 rfl ?_
   refine zab ?_
   refine ⟨k + 1, [1], by omega, by simp only []; omega, rfl, ⟨rfl, rfl, rfl, rfl, trivial⟩, ⟨by rw [xL (by omega), qbK (by omega), List.flatten_append, List.flatten_singleton]; exact jm rfl (by simp), trivial⟩⟩
  ·try simp only [decide_eq_true_eq, decide_eq_false_iff_not, beq_iff_eq, bne_iff_ne, beq_eq_false_iff_ne, bne_eq_false_iff_eq, qbl, qbm, qbi, qbo, qbk, ne_eq, Decidable.not_not, qbz, qbA] at c3
   refine qz ?_
   refine zai ?_
   refine zaa 2 rfl ?_
   refine zab ?_
   refine zau ?_
   obtain rfl : k = ps.length := by omega
   rw [VU, List.take_length]
   refine km [0] (rs1 rfl (qB rfl)) rfl rfl ?_ ⟨rfl, trivial⟩
   rfl
theorem Y7 (ps : List (List Int)) (n : Nat) (L : List D) (h1 : n = ps.length) (h2 : L = ps.flatMap fun p => [.slf 1 (p).length ((p).flatMap uc8)]) (hT : ps.flatten.length ≤ 100000000) : DFun Tryz.prog 36 [.slm 1 n L] [] (.slf 1 (ps.flatten).length ((ps.flatten).flatMap uc8)) [] := by
 subst h1 h2; exact gz (XU ps hT) rfl
end Go.Proofs.YtofklkbfkoliiaaGreat
namespace Go.Proofs.YtofklkbfkoliiaaGreat
set_option linter.unusedVariables false
set_option linter.unusedSimpArgs false
open Go.RowKit
attribute [local irreducible] tkN k6 kw
theorem fl53 : fdL Tryz.prog 53 = some [(0, 1), (1, 1), (2, 1), (3, 1)] := by kernel_rfl
theorem yL : fdO Tryz.prog 53 0 = some 0 := by kernel_rfl
theorem wY : fdO Tryz.prog 53 1 = some 1 := by kernel_rfl
theorem vJ : fdO Tryz.prog 53 2 = some 2 := by kernel_rfl
theorem QY : fdO Tryz.prog 53 3 = some 3 := by kernel_rfl
theorem vk : fdO Tryz.prog 61 0 = some 0 := by kernel_rfl
theorem u4 : fdO Tryz.prog 61 1 = some 1 := by kernel_rfl
theorem yr : fdO Tryz.prog 61 2 = some 2 := by kernel_rfl
theorem zh : tyB Tryz.prog 59 = some (false, 1) := by kernel_rfl
theorem jp : tyB Tryz.prog 61 = some (true, 3) := by kernel_rfl
theorem GQ : zrC Tryz.prog 53 = some [.int .u64 0, .int .i64 0, .int .i64 0, .slice none 0 0] := by kernel_rfl
structure PcM where
 sn : Int
 ix : Int
 mn : Int
 b : List Int
deriving DecidableEq
structure PiM where
 sn : Int
 mn : Int
 ps : List (List Int)
deriving DecidableEq
def pcD (p : PcM) : List D := [.val (.int .u64 p.sn), .val (.int .i64 p.ix), .val (.int .i64 p.mn), .slf 1 (p.b).length ((p.b).flatMap uc8)]
def rwB (b : List Int) : D := .slf 1 (b).length ((b).flatMap uc8)
def piD (p : PiM) : List D := [.val (.int .u64 p.sn), .val (.int .i64 p.mn), .slm 1 p.ps.length (p.ps.flatMap fun b => [rwB b])]
def At (ix mn n : Int) : Bool := (n == 256) || ((ix == mn - 1) && decide (1 ≤ n) && decide (n < 256))
def snB (n : Int) : Bool := decide (1 ≤ n) && decide (n ≤ 4611686018427387904)
def pcB (p : PcM) : Bool := snB p.sn && decide (1 ≤ p.mn) && decide (p.mn ≤ 64) && decide (0 ≤ p.ix) && decide (p.ix < p.mn) && At p.ix p.mn p.b.length
theorem pcB_iff {p : PcM} : pcB p = true ↔ (1 ≤ p.sn ∧ p.sn ≤ 4611686018427387904) ∧ (1 ≤ p.mn ∧ p.mn ≤ 64) ∧ (0 ≤ p.ix ∧ p.ix < p.mn) ∧ (p.b.length = 256 ∨ (p.ix = p.mn - 1 ∧ 1 ≤ p.b.length ∧ p.b.length < 256)) := by
 unfold pcB snB At
 simp only [qbi, qbo, decide_eq_true_eq, beq_iff_eq]
 omega
def emp (b : List Int) : Bool := ((b.length : Nat) : Int) == 0
theorem emp_iff {b : List Int} : emp b = true ↔ b = [] := by
 unfold emp
 simp
def ym : List (List Int) → Int → Int
 | [], _ => -1
 | b :: r, k => if emp b = true then k else ym r (k + 1)
theorem KZ {ps : List (List Int)} {k : Nat} (h : k < ps.length) : ym (ps.drop k) (k : Int) = if emp ps[k] = true then (k : Int) else ym (ps.drop (k + 1)) ((k + 1 : Nat) : Int) := by
 rw [List.drop_eq_getElem_cons h, ym]
 rfl
theorem WS {ps : List (List Int)} {k : Nat} (h : ps.length ≤ k) (i : Int) : ym (ps.drop k) i = -1 := by
 rw [List.drop_of_length_le h, ym]
def noB (p : PiM) : Bool := ((p.sn == 0) && (p.mn == 0)) && ((p.ps.length : Int) == 0)
def zF (sn mn : Int) : List (List Int) → Int → Bool
 | [], _ => true
 | b :: r, k => (emp b || pcB ⟨sn, k, mn, b⟩) && zF sn mn r (k + 1)
theorem zi {sn mn : Int} {ps : List (List Int)} {k : Nat} (h : k < ps.length) : zF sn mn (ps.drop k) (k : Int) = ((emp ps[k] || pcB ⟨sn, k, mn, ps[k]⟩) && zF sn mn (ps.drop (k + 1)) ((k + 1 : Nat) : Int)) := by
 rw [List.drop_eq_getElem_cons h, zF]
 rfl
theorem Y8 {sn mn : Int} {ps : List (List Int)} {k : Nat} (h : ps.length ≤ k) (i : Int) : zF sn mn (ps.drop k) i = true := by
 rw [List.drop_of_length_le h, zF]
def wZ : List (List Int) → Nat
 | [] => 0
 | b :: r => (if emp b = true then 0 else 1) + wZ r
theorem JZ {ps : List (List Int)} {k : Nat} (h : k < ps.length) : wZ (ps.take (k + 1)) = wZ (ps.take k) + if emp ps[k] = true then 0 else 1 := by
 induction ps generalizing k with
 | nil => simp at h
 | cons b r ih =>
  cases k with
  | zero => simp [wZ]
  | succ k =>
   rw [List.take_succ_cons, List.take_succ_cons, wZ, wZ, ih (by simpa using h), Nat.add_assoc]
   rfl
theorem Hw (ps : List (List Int)) : wZ ps ≤ ps.length := by
 induction ps with
 | nil => simp [wZ]
 | cons b r ih => rw [wZ, qbC]; split <;> omega
def jh (p : PiM) : Bool := noB p || (zF p.sn p.mn p.ps 0 && !(((wZ p.ps : Nat) : Int) == 0) && ((p.ps.length : Int) == p.mn))
theorem u5 (p : PcM) : DFun Tryz.prog 24 [.agg (pcD p)] [] (.val (.int .i64 (wv (pcB p) 311))) [] := by
 refine zap (N := 55) 0 (by kernel_rfl) Tryz.func24 rfl rfl rfl (by simp only [fr0, qbh, qbj]; exact rfl) rfl fun s0 hs0 => ?_
 refine zad ?_
 refine zam 1 ?_
 refine zac ?_
 refine zal rfl (qp 0 rfl (ev1 rfl) rfl) ?_
 refine zaa 1 rfl ?_
 refine zab ?_
 refine zad ?_
 refine zai ?_
 refine za rfl (zas rfl yL (ev1 rfl)) ?_
 refine za rfl (zat rfl kC (ev1 rfl) rfl rfl) ?_
 refine za rfl (qq rfl (ev1 rfl) (ev1 rfl)) ?_
 refine zaa 1 rfl ?_
 refine zah (qa rfl rfl rfl) rfl rfl rfl (zas rfl yL (ev1 rfl)) ?_
 refine zah (qa rfl rfl rfl) rfl rfl rfl (zat rfl kC (ev2 rfl) rfl rfl) ?_
 refine zah (qa rfl rfl rfl) rfl rfl rfl (kg rfl (ev2 rfl) (ev1 rfl)) ?_
 refine za rfl (qK rfl (ev1 rfl) (ev3 rfl id)) ?_
 refine zaa 1 rfl ?_
 refine zah (qa rfl rfl rfl) rfl rfl rfl (zas rfl vJ (ev1 rfl)) ?_
 refine zah (qa rfl rfl rfl) rfl rfl rfl (zat rfl tb3 (ev2 rfl) rfl rfl) ?_
 refine zah (qa rfl rfl rfl) rfl rfl rfl (qq rfl (ev2 rfl) (ev1 rfl)) ?_
 refine za rfl (qK rfl (ev1 rfl) (ev3 rfl id)) ?_
 refine zaa 1 rfl ?_
 refine zah (qa rfl rfl rfl) rfl rfl rfl (zas rfl vJ (ev1 rfl)) ?_
 refine zah (qa rfl rfl rfl) rfl rfl rfl (zat rfl tb3 (ev2 rfl) rfl rfl) ?_
 refine zah (qa rfl rfl rfl) rfl rfl rfl (kg rfl (ev2 rfl) (ev1 rfl)) ?_
 refine za rfl (qK rfl (ev1 rfl) (ev3 rfl id)) ?_
 refine zaa 1 rfl ?_
 refine zah (qa rfl rfl rfl) rfl rfl rfl (zas rfl wY (ev1 rfl)) ?_
 refine zah (qa rfl rfl rfl) rfl rfl rfl (zat rfl tb3 (ev2 rfl) rfl rfl) ?_
 refine zah (qa rfl rfl rfl) rfl rfl rfl (qq rfl (ev2 rfl) (ev1 rfl)) ?_
 refine za rfl (qK rfl (ev1 rfl) (ev3 rfl id)) ?_
 refine zaa 1 rfl ?_
 refine zah (qa rfl rfl rfl) rfl rfl rfl (zas rfl wY (ev1 rfl)) ?_
 refine zah (qa rfl rfl rfl) rfl rfl rfl (zat rfl tb3 (ev2 rfl) rfl rfl) ?_
 refine zah (qa rfl rfl rfl) rfl rfl rfl (zas rfl vJ (ev1 rfl)) ?_
 refine zah (qa rfl rfl rfl) rfl rfl rfl (zat rfl tb3 (ev2 rfl) rfl rfl) ?_
 refine zah (qa rfl rfl rfl) rfl rfl rfl (gI rfl (ev2 rfl) (ev2 rfl)) ?_
 refine za rfl (qK rfl (ev1 rfl) (ev3 rfl id)) ?_
 refine zab ?_
 refine qi rfl (fun c1 => ?_) (fun c1 => ?_)
 ·try simp only [decide_eq_true_eq, decide_eq_false_iff_not, beq_iff_eq, bne_iff_ne, beq_eq_false_iff_ne, bne_eq_false_iff_eq, qbl, qbm, qbi, qbo, qbk, ne_eq, Decidable.not_not, qbz, qbA] at c1
  refine zai ?_
  refine zaa 1 rfl ?_
  refine zab ?_
  refine zau ?_
  refine qo (rs1 rfl (qB rfl)) rfl ?_
  have h : pcB p = false := by
   rw [Bool.eq_false_iff]; intro h; have h := pcB_iff.1 h; omega
  rw [h]
  rfl
 ·try simp only [decide_eq_true_eq, decide_eq_false_iff_not, beq_iff_eq, bne_iff_ne, beq_eq_false_iff_ne, bne_eq_false_iff_eq, qbl, qbm, qbi, qbo, qbk, ne_eq, Decidable.not_not, qbz, qbA] at c1
  refine zao ?_
  refine zad ?_
  refine zai ?_
  refine za rfl (zas rfl QY (ev1 rfl)) ?_
  refine za rfl (zat rfl jg (ev1 rfl) rfl rfl) ?_
  refine za rfl (qm rfl qg (ev1 rfl)) ?_
  refine zaa 1 rfl ?_
  refine zab ?_
  refine zai ?_
  refine zaa 1 rfl ?_
  refine za rfl (qq rfl (ev1 rfl) (ev1 rfl)) ?_
  refine zaa 1 rfl ?_
  refine zah (qa rfl rfl rfl) rfl rfl rfl (zaj (.inl rfl) (ev1 rfl)) ?_
  refine zah (qa rfl rfl rfl) rfl rfl rfl (kg rfl (ev2 rfl) (ev1 rfl)) ?_
  refine za rfl (qK rfl (ev1 rfl) (ev3 rfl id)) ?_
  refine zaa 1 rfl ?_
  refine zah (qa rfl rfl rfl) rfl rfl rfl (zaj (.inl rfl) (ev1 rfl)) ?_
  refine zah (qa rfl rfl rfl) rfl rfl rfl (qq rfl (ev2 rfl) (ev1 rfl)) ?_
  refine zah (qa rfl rfl rfl) rfl rfl rfl (zaj (.inl rfl) (ev2 rfl)) ?_
  refine zah (jj rfl rfl rfl) rfl rfl rfl (zas rfl wY (ev1 rfl)) ?_
  refine zah (jj rfl rfl rfl) rfl rfl rfl (zat rfl tb3 (ev2 rfl) rfl rfl) ?_
  refine zah (jj rfl rfl rfl) rfl rfl rfl (zas rfl vJ (ev1 rfl)) ?_
  refine zah (jj rfl rfl rfl) rfl rfl rfl (zat rfl tb3 (ev2 rfl) rfl rfl) ?_
  refine zah (jj rfl rfl rfl) rfl rfl rfl (je rfl (ev2 rfl) (ev1 rfl) (fun hp => qbg _ (by first | omega | (simp at hp; omega)))) ?_
  refine zah (jj rfl rfl rfl) rfl rfl rfl (qq rfl (ev2 rfl) (ev2 rfl)) ?_
  refine zah (qa rfl rfl rfl) rfl rfl rfl (qF rfl (ev2 rfl) (ev2 rfl)) ?_
  refine za rfl (qK rfl (ev1 rfl) (ev3 rfl id)) ?_
  refine zab ?_
  refine qi rfl (fun c2 => ?_) (fun c2 => ?_)
  ·try simp only [decide_eq_true_eq, decide_eq_false_iff_not, beq_iff_eq, bne_iff_ne, beq_eq_false_iff_ne, bne_eq_false_iff_eq, qbl, qbm, qbi, qbo, qbk, ne_eq, Decidable.not_not, qbz, qbA] at c2
   refine zai ?_
   refine zaa 1 rfl ?_
   refine zab ?_
   refine zau ?_
   refine qo (rs1 rfl (qB rfl)) rfl ?_
   have h : pcB p = false := by
    rw [Bool.eq_false_iff]; intro h; have h := pcB_iff.1 h; omega
   rw [h]
   rfl
  ·try simp only [decide_eq_true_eq, decide_eq_false_iff_not, beq_iff_eq, bne_iff_ne, beq_eq_false_iff_ne, bne_eq_false_iff_eq, qbl, qbm, qbi, qbo, qbk, ne_eq, Decidable.not_not, qbz, qbA] at c2
   refine zao ?_
   refine zai ?_
   refine zaa 1 rfl ?_
   refine zab ?_
   refine zau ?_
   refine qo (rs1 rfl (qB rfl)) rfl ?_
   have h : pcB p = true := by
    rw [pcB_iff]
    rw [Bool.and_eq_false_iff, decide_eq_false_iff_not, decide_eq_false_iff_not] at c2
    omega
   rw [h]
   rfl
theorem Hx (b : List Int) : DFun Tryz.prog 103 [.slf 1 (b).length ((b).flatMap uc8)] [] (.val (.bool (emp b))) [] := by
 refine zap (N := 6) 0 (by kernel_rfl) Tryz.func103 rfl rfl rfl (by simp only [fr0, qbh, qbj]; exact rfl) rfl fun s0 hs0 => ?_
 refine ko (t := 0) rfl fun hl0 hL0 => ?_
 refine zai ?_
 refine zaa 1 rfl ?_
 refine zab ?_
 refine zai ?_
 refine zaa 1 rfl ?_
 refine za rfl (qm rfl qg (ev1 rfl)) ?_
 refine za rfl (qj rfl (ev1 rfl) (ev1 rfl)) ?_
 refine zaa 1 rfl ?_
 refine zab ?_
 refine zau ?_
 refine qo (rs1 rfl (qB rfl)) rfl ?_
 rfl
theorem ixf_d (ps : List (List Int)) : DFun Tryz.prog 124 [.slm 1 (ps).length ((ps).flatMap fun b => [rwB b]), .fn (.func 103) [] []] [] (.val (.int .i64 (ym ps 0))) [] := by
 refine zap (N := 19) 0 (by kernel_rfl) Tryz.func124 rfl rfl rfl (by simp only [fr0, qbh, qbj]; exact rfl) rfl fun s0 hs0 => ?_
 refine xo (t := 0) rfl fun hl0 hL0 => ?_
 refine zai ?_
 refine zaa 1 rfl ?_
 refine zab ?_
 refine zad ?_
 refine zai ?_
 refine zaa 1 rfl ?_
 refine za rfl (gG rfl g9 (ev1 rfl)) ?_
 refine zaa 1 rfl ?_
 refine zab ?_
 refine zav ?_
 refine qE ⟨hs0, rfl⟩ (α := Nat) (fun k => [(8, .val (.int .i64 (k : Int)))]) [(0, _), (1, _), (7, _)] (fun k => []) [] (fun k => k ≤ ps.length ∧ ym ps 0 = ym (ps.drop k) (k : Int)) (fun k => ps.length - k) 0 [] (by simp) rfl ⟨rfl, rfl, rfl, trivial⟩ ⟨rfl, trivial⟩ trivial ?_
 intro k hx
 simp only [upd, zaf, zag, qbp, qbq]
 obtain ⟨hk, he⟩ := hx
 refine zai ?_
 refine za rfl (qq rfl (ev1 rfl) (ev1 rfl)) ?_
 refine zab ?_
 refine zad ?_
 refine qi rfl (fun c1 => ?_) (fun c1 => ?_)
 ·try simp only [decide_eq_true_eq, decide_eq_false_iff_not, beq_iff_eq, bne_iff_ne, beq_eq_false_iff_ne, bne_eq_false_iff_eq, qbl, qbm, qbi, qbo, qbk, ne_eq, Decidable.not_not, qbz, qbA] at c1
  refine zao ?_
  refine zad ?_
  refine zav ?_
  refine zai ?_
  refine zaa 2 rfl ?_
  refine zab ?_
  refine zai ?_
  refine zaa 3 rfl ?_
  refine za rfl (wc (k) rfl g9 (ev1 rfl) (ev1 rfl) (fun _ => rfl) (wP (by omega))) ?_
  refine za rfl (gY rfl jg (ev1 rfl) rfl) ?_
  refine za rfl (zak [] [] [] rfl (ev1 rfl) (ec (ev1 rfl) en) rfl rfl (Hx _) rfl rfl rfl rfl rfl rfl) ?_
  refine zab ?_
  refine qi rfl (fun c2 => ?_) (fun c2 => ?_)
  ·refine zai ?_
   refine zaa 2 rfl ?_
   refine zab ?_
   refine zau ?_
   refine qo (rs1 rfl (qB rfl)) rfl ?_
   rw [he, KZ (by omega), if_pos c2]
  ·refine zao ?_
   refine zac ?_
   refine za rfl (qc rfl (ev1 rfl) (ev1 rfl) (fun _ => qbg _ (by omega))) ?_
   refine zaa 1 rfl ?_
   refine zab ?_
   refine ⟨k + 1, [], ⟨by omega, by rw [he, KZ (by omega), if_neg (by rw [c2]; decide)]⟩, by simp only []; omega, rfl, ⟨rfl, rfl, rfl, rfl, trivial⟩, trivial⟩
 ·try simp only [decide_eq_true_eq, decide_eq_false_iff_not, beq_iff_eq, bne_iff_ne, beq_eq_false_iff_ne, bne_eq_false_iff_eq, qbl, qbm, qbi, qbo, qbk, ne_eq, Decidable.not_not, qbz, qbA] at c1
  refine qz ?_
  refine zai ?_
  refine zaa 1 rfl ?_
  refine zab ?_
  refine zau ?_
  refine qo (rs1 rfl (qB rfl)) rfl ?_
  rw [he, WS (by omega)]
theorem Hy (ps : List (List Int)) : DFun Tryz.prog 102 [.slm 1 (ps).length ((ps).flatMap fun b => [rwB b]), .fn (.func 103) [] []] [] (.val (.int .i64 (ym ps 0))) [] := by
 refine zap (N := 8) 0 (by kernel_rfl) Tryz.func102 rfl rfl rfl (by simp only [fr0, qbh, qbj]; exact rfl) rfl fun s0 hs0 => ?_
 refine xo (t := 0) rfl fun hl0 hL0 => ?_
 refine zai ?_
 refine zaa 1 rfl ?_
 refine zab ?_
 refine zai ?_
 refine zaa 2 rfl ?_
 refine za rfl (zak [] [] [] rfl (ev1 rfl) (ec (ev1 rfl) (ec (ev1 rfl) en)) rfl rfl (ixf_d _) rfl rfl rfl rfl rfl rfl) ?_
 refine zaa 1 rfl ?_
 refine zab ?_
 refine zau ?_
 refine qo (rs1 rfl (qB rfl)) rfl ?_
 rfl
theorem zj (p : PiM) : DFun Tryz.prog 73 [.agg (piD p)] [] (.val (.int .i64 (ym p.ps 0))) [] := by
 refine zap (N := 6) 0 (by kernel_rfl) Tryz.func73 rfl rfl rfl (by simp only [fr0, qbh, qbj]; exact rfl) rfl fun s0 hs0 => ?_
 refine zad ?_
 refine zam 1 ?_
 refine zac ?_
 refine zal rfl (qp 0 rfl (ev1 rfl) rfl) ?_
 refine zaa 1 rfl ?_
 refine zab ?_
 refine zai ?_
 refine za rfl (zas rfl yr (ev1 rfl)) ?_
 refine za rfl (zat rfl zh (ev1 rfl) rfl rfl) ?_
 refine za rfl (zak [] [] [] rfl (ev1 rfl) (ec (ev1 rfl) (ec (ev1 rfl) en)) rfl rfl (Hy _) rfl rfl rfl rfl rfl rfl) ?_
 refine zaa 1 rfl ?_
 refine zab ?_
 refine zau ?_
 refine qo (rs1 rfl (qB rfl)) rfl ?_
 rfl
theorem ut (p : PiM) : DFun Tryz.prog 69 [.agg (piD p)] [] (.val (.bool (noB p))) [] := by
 refine zap (N := 17) 0 (by kernel_rfl) Tryz.func69 rfl rfl rfl (by simp only [fr0, qbh, qbj]; exact rfl) rfl fun s0 hs0 => ?_
 refine zad ?_
 refine zam 1 ?_
 refine zac ?_
 refine zal rfl (qp 0 rfl (ev1 rfl) rfl) ?_
 refine zaa 1 rfl ?_
 refine zab ?_
 refine zai ?_
 refine za rfl (zas rfl vk (ev1 rfl)) ?_
 refine za rfl (zat rfl kC (ev1 rfl) rfl rfl) ?_
 refine za rfl (qj rfl (ev1 rfl) (ev1 rfl)) ?_
 refine zaa 1 rfl ?_
 refine zah (qd rfl rfl rfl) rfl rfl rfl (zas rfl u4 (ev1 rfl)) ?_
 refine zah (qd rfl rfl rfl) rfl rfl rfl (zat rfl tb3 (ev2 rfl) rfl rfl) ?_
 refine zah (qd rfl rfl rfl) rfl rfl rfl (qj rfl (ev2 rfl) (ev1 rfl)) ?_
 refine za rfl (qF rfl (ev1 rfl) (ev3 rfl id)) ?_
 refine zaa 1 rfl ?_
 refine zah (qd rfl rfl rfl) rfl rfl rfl (zas rfl yr (ev1 rfl)) ?_
 refine zah (qd rfl rfl rfl) rfl rfl rfl (zat rfl zh (ev2 rfl) rfl rfl) ?_
 refine zah (qd rfl rfl rfl) rfl rfl rfl (gG rfl g9 (ev2 rfl)) ?_
 refine zah (qd rfl rfl rfl) rfl rfl rfl (qj rfl (ev2 rfl) (ev1 rfl)) ?_
 refine za rfl (qF rfl (ev1 rfl) (ev3 rfl id)) ?_
 refine zaa 1 rfl ?_
 refine zab ?_
 refine zau ?_
 refine qo (rs1 rfl (qB rfl)) rfl ?_
 rfl
theorem GR (p : PiM) (hn : p.ps.length ≤ 5000) : DFun Tryz.prog 28 [.agg (piD p)] [] (.val (.int .i64 (wv (jh p) 312))) [] := by
 refine zap (N := 41) 0 (by kernel_rfl) Tryz.func28 rfl rfl rfl (by simp only [fr0, qbh, qbj]; exact rfl) rfl fun s0 hs0 => ?_
 refine zad ?_
 refine zam 1 ?_
 refine zac ?_
 refine zal rfl (qp 0 rfl (ev1 rfl) rfl) ?_
 refine zaa 1 rfl ?_
 refine zab ?_
 refine zad ?_
 refine zai ?_
 refine za rfl (qe rfl jp (ev1 rfl) rfl rfl) ?_
 refine za rfl (zak [] [] [] rfl (ev1 rfl) (ec (ev1 rfl) en) rfl rfl (ut _) rfl rfl rfl rfl rfl rfl) ?_
 refine zab ?_
 refine qi rfl (fun c1 => ?_) (fun c1 => ?_)
 ·refine zai ?_
  refine zaa 1 rfl ?_
  refine zab ?_
  refine zau ?_
  refine qo (rs1 rfl (qB rfl)) rfl ?_
  have h : jh p = true := by unfold jh; rw [c1]; rfl
  rw [h]
  rfl
 ·refine zao ?_
  refine zai ?_
  refine zaa 1 rfl ?_
  refine zab ?_
  refine zad ?_
  refine zai ?_
  refine za rfl (zas rfl yr (ev1 rfl)) ?_
  refine za rfl (zat rfl zh (ev1 rfl) rfl rfl) ?_
  refine za rfl (gG rfl g9 (ev1 rfl)) ?_
  refine zaa 1 rfl ?_
  refine zab ?_
  refine zav ?_
  refine qE ⟨hs0, rfl⟩ (α := Nat) (fun k => [(3, .val (.int .i64 (wZ (p.ps.take k) : Nat))), (11, .val (.int .i64 (k : Int)))]) [(1, _), (9, _), (10, _)] (fun k => []) [_] (fun k => k ≤ p.ps.length ∧ zF p.sn p.mn p.ps 0 = zF p.sn p.mn (p.ps.drop k) (k : Int)) (fun k => p.ps.length - k) 0 [0] (by simp) rfl ⟨rfl, rfl, rfl, trivial⟩ ⟨rfl, rfl, trivial⟩ ⟨rfl, trivial⟩ ?_
  intro k hx
  simp only [upd, zaf, zag, qbp, qbq]
  obtain ⟨hk, he⟩ := hx
  have hct := Hw (p.ps.take k)
  rw [qbD] at hct
  refine zai ?_
  refine za rfl (qq rfl (ev1 rfl) (ev1 rfl)) ?_
  refine zab ?_
  refine zad ?_
  refine qi rfl (fun c2 => ?_) (fun c2 => ?_)
  ·try simp only [decide_eq_true_eq, decide_eq_false_iff_not, beq_iff_eq, bne_iff_ne, beq_eq_false_iff_ne, bne_eq_false_iff_eq, qbl, qbm, qbi, qbo, qbk, ne_eq, Decidable.not_not, qbz, qbA] at c2
   refine zao ?_
   refine zad ?_
   refine zav ?_
   refine zai ?_
   refine zaa 1 rfl ?_
   refine za rfl (wc (k) rfl g9 (ev1 rfl) (ev1 rfl) (fun _ => rfl) (wP (by omega))) ?_
   refine za rfl (gY rfl jg (ev1 rfl) rfl) ?_
   refine zaa 2 rfl ?_
   refine zab ?_
   refine zad ?_
   refine zai ?_
   refine zaa 1 rfl ?_
   refine za rfl (qm rfl qg (ev1 rfl)) ?_
   refine za rfl (qj rfl (ev1 rfl) (ev1 rfl)) ?_
   refine zab ?_
   refine qi rfl (fun c3 => ?_) (fun c3 => ?_)
   ·have c3 : emp p.ps[k] = true := c3
    refine qz ?_
    refine zac ?_
    refine za rfl (qc rfl (ev1 rfl) (ev1 rfl) (fun _ => qbg _ (by omega))) ?_
    refine zaa 1 rfl ?_
    refine zab ?_
    refine ⟨k + 1, [0], ⟨by omega, by rw [he, zi (by omega), c3, Bool.true_or, Bool.true_and]⟩, by simp only []; omega, rfl, ⟨by rw [JZ (by omega), if_pos c3]; rfl, rfl, rfl, rfl, rfl, trivial⟩, ⟨rfl, trivial⟩⟩
   ·have c3 : emp p.ps[k] = false := c3
    refine zao ?_
    refine zad ?_
    refine zai ?_
    refine za rfl (zas rfl vk (ev1 rfl)) ?_
    refine za rfl (zat rfl kC (ev1 rfl) rfl rfl) ?_
    refine zaa 1 rfl ?_
    refine za rfl (zas rfl u4 (ev1 rfl)) ?_
    refine za rfl (zat rfl tb3 (ev1 rfl) rfl rfl) ?_
    refine zaa 1 rfl ?_
    refine za rfl (gc (ps := [(0, .tmp 20), (1, .tmp 21), (2, .tmp 23), (3, .tmp 24)]) rfl fl53 GQ (ec (ev1 rfl) (ec (ev1 rfl) (ec (ev1 rfl) (ec (ev1 rfl) en)))) rfl rfl rfl) ?_
    refine za rfl (zak [] [] [] rfl (ev1 rfl) (ec (ev1 rfl) en) rfl rfl (u5 ⟨p.sn, k, p.mn, p.ps[k]⟩) rfl rfl rfl rfl rfl rfl) ?_
    refine za rfl (qV rfl (ev1 rfl) (ev1 rfl)) ?_
    refine zab ?_
    refine qi rfl (fun c5 => ?_) (fun c5 => ?_)
    ·have c4 : pcB ⟨p.sn, k, p.mn, p.ps[k]⟩ = false := by
      cases h : pcB ⟨p.sn, k, p.mn, p.ps[k]⟩ with
      | false => rfl
      | true => rw [h] at c5; cases c5
     refine zai ?_
     refine zaa 1 rfl ?_
     refine zab ?_
     refine zau ?_
     refine qo (rs1 rfl (qB rfl)) rfl ?_
     have h : jh p = false := by
      unfold jh
      rw [he, zi (by omega), c3, c4, c1]
      rfl
     rw [h]
     rfl
    ·have c4 : pcB ⟨p.sn, k, p.mn, p.ps[k]⟩ = true := by
      cases h : pcB ⟨p.sn, k, p.mn, p.ps[k]⟩ with
      | true => rfl
      | false => rw [h] at c5; cases c5
     refine zao ?_
     refine zac ?_
     refine zaa 1 rfl ?_
     refine za rfl (qc rfl (ev1 rfl) (ev1 rfl) (fun _ => qbg _ (by omega))) ?_
     refine zaa 1 rfl ?_
     refine zab ?_
     refine zac ?_
     refine za rfl (qc rfl (ev1 rfl) (ev1 rfl) (fun _ => qbg _ (by omega))) ?_
     refine zaa 1 rfl ?_
     refine zab ?_
     refine ⟨k + 1, [0], ⟨by omega, by rw [he, zi (by omega), c4, Bool.or_true, Bool.true_and]⟩, by simp only []; omega, rfl, ⟨by rw [JZ (by omega), if_neg (by rw [c3]; decide)]; rfl, rfl, rfl, rfl, rfl, trivial⟩, ⟨rfl, trivial⟩⟩
  ·try simp only [decide_eq_true_eq, decide_eq_false_iff_not, beq_iff_eq, bne_iff_ne, beq_eq_false_iff_ne, bne_eq_false_iff_eq, qbl, qbm, qbi, qbo, qbk, ne_eq, Decidable.not_not, qbz, qbA] at c2
   refine qz ?_
   refine zad ?_
   refine zad ?_
   obtain rfl : k = p.ps.length := by omega
   rw [List.take_length]
   refine zac ?_
   refine zaa 1 rfl ?_
   refine za rfl (qj rfl (ev1 rfl) (ev1 rfl)) ?_
   refine zaa 1 rfl ?_
   refine zah (qa rfl rfl rfl) rfl rfl rfl (zas rfl yr (ev1 rfl)) ?_
   refine zah (qa rfl rfl rfl) rfl rfl rfl (zat rfl zh (ev2 rfl) rfl rfl) ?_
   refine zah (qa rfl rfl rfl) rfl rfl rfl (gG rfl g9 (ev2 rfl)) ?_
   refine zah (qa rfl rfl rfl) rfl rfl rfl (zas rfl u4 (ev1 rfl)) ?_
   refine zah (qa rfl rfl rfl) rfl rfl rfl (zat rfl tb3 (ev2 rfl) rfl rfl) ?_
   refine zah (qa rfl rfl rfl) rfl rfl rfl (qV rfl (ev2 rfl) (ev2 rfl)) ?_
   refine za rfl (qK rfl (ev1 rfl) (ev3 rfl id)) ?_
   refine zab ?_
   refine qi rfl (fun c6 => ?_) (fun c6 => ?_)
   ·refine zai ?_
    refine zaa 1 rfl ?_
    refine zab ?_
    refine zau ?_
    refine qo (rs1 rfl (qB rfl)) rfl ?_
    have h : jh p = false := by
     unfold jh
     rw [c1, he, Y8 (qby _)]
     simp at c6 ⊢
     omega
    rw [h]
    rfl
   ·refine zao ?_
    refine zai ?_
    refine zaa 1 rfl ?_
    refine zab ?_
    refine zau ?_
    refine qo (rs1 rfl (qB rfl)) rfl ?_
    have h : jh p = true := by
     unfold jh
     rw [he, Y8 (qby _)]
     simp at c6 ⊢
     omega
    rw [h]
    rfl
end Go.Proofs.YtofklkbfkoliiaaGreat
namespace Go.Proofs.YtofklkbfkoliiaaGreat
set_option linter.unusedVariables false
set_option linter.unusedSimpArgs false
open Go.RowKit
attribute [local irreducible] tkN k6 kw
theorem fl118 : fdL Tryz.prog 118 = some [(0, 3)] := by kernel_rfl
theorem fl61 : fdL Tryz.prog 61 = some [(0, 1), (1, 1), (2, 1)] := by kernel_rfl
theorem kZ : fdO Tryz.prog 118 0 = some 0 := by kernel_rfl
theorem ye : tyB Tryz.prog 53 = some (true, 4) := by kernel_rfl
theorem zr118 : zrC Tryz.prog 118 = some [.int .u64 0, .int .i64 0, .slice none 0 0] := by kernel_rfl
theorem uw : zrC Tryz.prog 61 = some [.int .u64 0, .int .i64 0, .slice none 0 0] := by kernel_rfl
theorem Y9 {e : TypeId} {n : Nat} : ∀ s h, BlkOk s h (.arr e 1 n (qbs (n * 1) (Value.slice none 0 0))) → BlkOk s h (.arx e 1 (qbs n ([] : List Int)).length ((qbs n ([] : List Int)).flatMap fun b => [rwB b])) := fun s h hk => by
 rw [qbv]
 rw [Nat.mul_one] at hk
 have e0 : ((qbs n ([] : List Int)).flatMap fun b => [rwB b]) = qbs n (rwB []) := by
  clear hk
  induction n with
  | zero => rfl
  | succ n ih => rw [List.replicate_succ, qbB, List.replicate_succ, ih]; rfl
 rw [e0]
 refine ⟨_, hk, by simp, fun j d v h1 h2 => ?_⟩
 obtain rfl := List.eq_of_mem_replicate (List.mem_of_getElem? h1)
 obtain rfl := List.eq_of_mem_replicate (List.mem_of_getElem? h2)
 exact Wk.slf0 1 s _ (.val _)
theorem Hz {ps : List (List Int)} {k : Nat} (h : k < ps.length) : (ps.take k ++ qbs (ps.length - k) []).set k ps[k] = ps.take (k + 1) ++ qbs (ps.length - (k + 1)) [] := by
 rw [List.set_append_right _ _ (by rw [qbD]; omega), qbD, Nat.min_eq_left (Nat.le_of_lt h), Nat.sub_self]
 rw [show ps.length - k = (ps.length - (k + 1)) + 1 by omega, List.replicate_succ, zaf, qbK h, qbM]
 rfl
theorem HA (ps : List (List Int)) {k : Nat} (h : k ≤ ps.length) : (ps.take k ++ qbs (ps.length - k) ([] : List Int)).length = ps.length := by
 rw [qbf, qbD, qbv]
 omega
theorem u6 (p : PiM) (hn : p.ps.length ≤ 5000) (hb : ∀ b ∈ p.ps, b.length ≤ 100000) (hp : jh p = true) : DFun Tryz.prog 71 [.agg (piD p)] [] (.loc 0 0) [.mix 118 [.val (.int .u64 p.sn), .val (.int .i64 p.mn), .arr 1], .arx 30 1 (p.ps).length ((p.ps).flatMap fun b => [rwB b])] := by
 refine zap (N := 33) 0 (by kernel_rfl) Tryz.func71 rfl rfl rfl (by simp only [fr0, qbh, qbj]; exact rfl) rfl fun s0 hs0 => ?_
 refine zad ?_
 refine zam 1 ?_
 refine zac ?_
 refine zal rfl (qp 0 rfl (ev1 rfl) rfl) ?_
 refine zaa 1 rfl ?_
 refine zab ?_
 refine zai ?_
 refine za rfl (qe rfl jp (ev1 rfl) rfl rfl) ?_
 refine za rfl (zak [] [] [] rfl (ev1 rfl) (ec (ev1 rfl) en) rfl rfl (GR p hn) rfl rfl rfl rfl rfl rfl) ?_
 refine za rfl (qj rfl (ev1 rfl) (ev1 rfl)) ?_
 refine za rfl (zak [] [] [] rfl (ev1 rfl) (ec (ev1 rfl) (ec (ev1 rfl) en)) rfl rfl (ky _ _ (by rw [hp]; rfl)) rfl rfl rfl rfl rfl rfl) ?_
 refine zab ?_
 refine zad ?_
 refine zam 1 ?_
 refine zac ?_
 refine za rfl (zas rfl yr (ev1 rfl)) ?_
 refine za rfl (zat rfl zh (ev1 rfl) rfl rfl) ?_
 refine za rfl (gG rfl g9 (ev1 rfl)) ?_
 refine zal rfl (QJ 1 (p.ps.length) (.slice none 0 0) rfl g9 U9 (rfl) (by decide) (ev1 rfl) (ev1 rfl) (fun _ => by omega) (fun _ => by omega) rfl (fun _ => by omega)) ?_
 refine zaa 1 rfl ?_
 refine zab ?_
 refine zad ?_
 refine zad ?_
 refine jf 1 Y9 rfl rfl (by simp only [qbp, qbq, zaf, zag, List.map]; exact rfl) ?_
 refine zac ?_
 refine za rfl (zas rfl yr (ev1 rfl)) ?_
 refine za rfl (zat rfl zh (ev1 rfl) rfl rfl) ?_
 refine za rfl (gG rfl g9 (ev1 rfl)) ?_
 refine zaa 1 rfl ?_
 refine zab ?_
 refine zav ?_
 refine qE ⟨hs0, rfl⟩ (α := Nat) (fun k => [(17, .val (.int .i64 (k : Int)))]) [(1, _), (3, _), (15, _), (16, _)] (fun k => [(1, .arx 30 1 p.ps.length ((p.ps.take k ++ qbs (p.ps.length - k) ([] : List Int)).flatMap fun b => [rwB b]))]) [_, .hole] (fun k => k ≤ p.ps.length) (fun k => p.ps.length - k) 0 [0, 1] (by simp) rfl ⟨rfl, rfl, rfl, rfl, trivial⟩ ⟨rfl, trivial⟩ ⟨rfl, qH (qbv ..) rfl (fun _ => rfl), trivial⟩ ?_
 intro k hx
 simp only [upd, zaf, zag, qbp, qbq]
 have hk := hx
 refine zai ?_
 refine za rfl (qq rfl (ev1 rfl) (ev1 rfl)) ?_
 refine zab ?_
 refine zad ?_
 refine qi rfl (fun c1 => ?_) (fun c1 => ?_)
 ·try simp only [decide_eq_true_eq, decide_eq_false_iff_not, beq_iff_eq, bne_iff_ne, beq_eq_false_iff_ne, bne_eq_false_iff_eq, qbl, qbm, qbi, qbo, qbk, ne_eq, Decidable.not_not, qbz, qbA] at c1
  refine zao ?_
  refine zad ?_
  refine zav ?_
  refine zai ?_
  refine zaa 1 rfl ?_
  refine za rfl (wc (k) rfl g9 (ev1 rfl) (ev1 rfl) (fun _ => rfl) (wP (by omega))) ?_
  refine za rfl (gY rfl jg (ev1 rfl) rfl) ?_
  refine zaa 2 rfl ?_
  refine zab ?_
  refine zac ?_
  refine zaa 3 rfl ?_
  refine za rfl (zak [] [] [] rfl (ev1 rfl) (ec (ev1 rfl) en) rfl rfl (gC p.ps[k] (by have := hb _ (List.getElem_mem (show k < p.ps.length by omega)); omega)) rfl rfl rfl rfl rfl rfl) ?_
  refine za rfl (xX (k) rfl g9 (ev1 rfl) (ev1 rfl) rfl (fun _ => rfl) (fun _ => by omega)) ?_
  refine zaq rfl (GC (j := k) (g := rwB) (q := p.ps[k]) rfl jg (ev1 rfl) (ev1 rfl) rfl (by rw [HA _ (by omega)]; omega) (fun s v h => by cases h <;> exact ⟨rfl, rfl⟩)) ?_
  refine zab ?_
  refine zac ?_
  refine za rfl (qc rfl (ev1 rfl) (ev1 rfl) (fun _ => qbg _ (by omega))) ?_
  refine zaa 1 rfl ?_
  refine zab ?_
  refine ⟨k + 1, [0, 1], by omega, by simp only []; omega, rfl, ⟨rfl, rfl, rfl, rfl, rfl, trivial⟩, ⟨rfl, qH rfl (Hz (by omega)) (fun _ => rfl), trivial⟩⟩
 ·try simp only [decide_eq_true_eq, decide_eq_false_iff_not, beq_iff_eq, bne_iff_ne, beq_eq_false_iff_ne, bne_eq_false_iff_eq, qbl, qbm, qbi, qbo, qbk, ne_eq, Decidable.not_not, qbz, qbA] at c1
  refine qz ?_
  refine zad ?_
  obtain rfl : k = p.ps.length := by omega
  rw [List.take_length, Nat.sub_self, List.replicate_zero, qbV]
  refine zac ?_
  refine zaa 1 rfl ?_
  refine za rfl (zas rfl yr (ev1 rfl)) ?_
  refine zaq rfl (kQ rfl zh (ev1 rfl) (ev1 rfl) (fun s v h => by cases h <;> exact ⟨rfl, rfl⟩) rfl (by first | decide | exact qbr rfl | simp)) ?_
  refine zab ?_
  refine zad ?_
  refine zam 1 ?_
  refine zac ?_
  refine za rfl (qe rfl jp (ev1 rfl) rfl rfl) ?_
  refine za rfl (Vi rfl (ev1 rfl) fl118 zr118 rfl) ?_
  refine zal rfl (qp 2 rfl (ev1 rfl) rfl) ?_
  refine zaa 1 rfl ?_
  refine zab ?_
  refine zau ?_
  refine km [2, 1] (rs1 rfl (qB rfl)) rfl rfl ?_ ⟨?_, ?_, trivial⟩
  rfl
  rfl
  exact qH rfl rfl (fun _ => rfl)
theorem XV {ps : List (List Int)} {j : Nat} (h : j < ps.length) : (ps.flatMap fun b => [rwB b])[j * 1]? = some (rwB ps[j]) := by
 rw [Nat.mul_one]
 induction ps generalizing j with
 | nil => simp at h
 | cons b r ih =>
  cases j with
  | zero => rfl
  | succ j =>
   rw [qbB]
   exact ih (by simpa using h)
theorem XW (p : PiM) (x : PcM) (hx : pcB x = false) : DPan Tryz.prog 72 [.loc 0 0, .agg (pcD x)] [.mix 118 [.val (.int .u64 p.sn), .val (.int .i64 p.mn), .arr 1], .arx 30 1 (p.ps).length ((p.ps).flatMap fun b => [rwB b])] (.ifc 125 (.val (.agg #[.int .i64 311]))) [.mix 118 [.val (.int .u64 p.sn), .val (.int .i64 p.mn), .arr 1], .arx 30 1 (p.ps).length ((p.ps).flatMap fun b => [rwB b])] := by
 refine zap (N := 68) 2 (by kernel_rfl) Tryz.func72 rfl rfl rfl (by simp only [fr0, qbh, qbj]; exact rfl) rfl fun s0 hs0 => ?_
 refine zad ?_
 refine zam 1 ?_
 refine zac ?_
 refine zal rfl (qp 2 rfl (ev1 rfl) rfl) ?_
 refine zab ?_
 refine zai ?_
 refine za rfl (qe rfl ye (ev1 rfl) rfl rfl) ?_
 refine za rfl (zak [] [] [] rfl (ev1 rfl) (ec (ev1 rfl) en) rfl rfl (u5 x) rfl rfl rfl rfl rfl rfl) ?_
 refine za rfl (qj rfl (ev1 rfl) (ev1 rfl)) ?_
 refine kz rfl (qQ [] [] [] rfl (ev1 rfl) (ec (ev1 rfl) (ec (ev1 rfl) en)) rfl rfl (yc _ _ (by rw [hx]; rfl)) rfl rfl rfl rfl rfl rfl) rfl ?_
 refine Gp [0, 1] rfl rfl ?_ ⟨rfl, qH rfl rfl (fun _ => rfl), trivial⟩
 rfl
theorem XX (p : PiM) (x : PcM) (hx : pcB x = true) (h2 : x.sn < p.sn) : DPan Tryz.prog 72 [.loc 0 0, .agg (pcD x)] [.mix 118 [.val (.int .u64 p.sn), .val (.int .i64 p.mn), .arr 1], .arx 30 1 (p.ps).length ((p.ps).flatMap fun b => [rwB b])] (.ifc 125 (.val (.agg #[.int .i64 241]))) [.mix 118 [.val (.int .u64 p.sn), .val (.int .i64 p.mn), .arr 1], .arx 30 1 (p.ps).length ((p.ps).flatMap fun b => [rwB b])] := by
 refine zap (N := 68) 2 (by kernel_rfl) Tryz.func72 rfl rfl rfl (by simp only [fr0, qbh, qbj]; exact rfl) rfl fun s0 hs0 => ?_
 refine zad ?_
 refine zam 1 ?_
 refine zac ?_
 refine zal rfl (qp 2 rfl (ev1 rfl) rfl) ?_
 refine zab ?_
 refine zai ?_
 refine za rfl (qe rfl ye (ev1 rfl) rfl rfl) ?_
 refine za rfl (zak [] [] [] rfl (ev1 rfl) (ec (ev1 rfl) en) rfl rfl (u5 x) rfl rfl rfl rfl rfl rfl) ?_
 refine za rfl (qj rfl (ev1 rfl) (ev1 rfl)) ?_
 refine za rfl (zak [] [] [] rfl (ev1 rfl) (ec (ev1 rfl) (ec (ev1 rfl) en)) rfl rfl (ky _ _ (by rw [hx]; rfl)) rfl rfl rfl rfl rfl rfl) ?_
 refine zab ?_
 refine zad ?_
 refine y0 8 [([], []), ([2], []), ([], []), ([], []), ([], []), ([], []), ([0], []), ([], [])] qJ (by kernel_rfl) rfl rfl ?_
 refine zae rfl rfl (zas rfl yL (ev1 rfl)) ?_
 refine zae rfl rfl (zat rfl kC (ev1 rfl) rfl rfl) ?_
 refine zae rfl rfl (zaj (.inl rfl) (ev1 rfl)) ?_
 refine zae rfl rfl (qC rfl (ev1 rfl) (fun s v h => by cases h; exact ⟨_, rfl⟩)) ?_
 refine zae rfl rfl (zas rfl kZ (ev1 rfl)) ?_
 refine zae rfl rfl (zas rfl vk (ev1 rfl)) ?_
 refine zae rfl rfl (zat rfl kC (ev1 rfl) rfl rfl) ?_
 refine zae rfl rfl (gI rfl (ev1 rfl) (ev1 rfl)) ?_
 refine ql ⟨_, _, _, rfl, qQ [] [] [] rfl (ev1 rfl) (ec (ev1 rfl) (ec (ev1 rfl) en)) rfl rfl (yc _ _ (by simp; omega)) rfl rfl rfl rfl rfl rfl, ?_⟩
 refine Gp [0, 1] rfl rfl ?_ ⟨rfl, qH rfl rfl (fun _ => rfl), trivial⟩
 rfl
theorem XY (p : PiM) (x : PcM) (hx : pcB x = true) (h2 : x.sn = p.sn) (h3 : x.mn ≠ p.mn) : DPan Tryz.prog 72 [.loc 0 0, .agg (pcD x)] [.mix 118 [.val (.int .u64 p.sn), .val (.int .i64 p.mn), .arr 1], .arx 30 1 (p.ps).length ((p.ps).flatMap fun b => [rwB b])] (.ifc 125 (.val (.agg #[.int .i64 311]))) [.mix 118 [.val (.int .u64 p.sn), .val (.int .i64 p.mn), .arr 1], .arx 30 1 (p.ps).length ((p.ps).flatMap fun b => [rwB b])] := by
 refine zap (N := 68) 2 (by kernel_rfl) Tryz.func72 rfl rfl rfl (by simp only [fr0, qbh, qbj]; exact rfl) rfl fun s0 hs0 => ?_
 refine zad ?_
 refine zam 1 ?_
 refine zac ?_
 refine zal rfl (qp 2 rfl (ev1 rfl) rfl) ?_
 refine zab ?_
 refine zai ?_
 refine za rfl (qe rfl ye (ev1 rfl) rfl rfl) ?_
 refine za rfl (zak [] [] [] rfl (ev1 rfl) (ec (ev1 rfl) en) rfl rfl (u5 x) rfl rfl rfl rfl rfl rfl) ?_
 refine za rfl (qj rfl (ev1 rfl) (ev1 rfl)) ?_
 refine za rfl (zak [] [] [] rfl (ev1 rfl) (ec (ev1 rfl) (ec (ev1 rfl) en)) rfl rfl (ky _ _ (by rw [hx]; rfl)) rfl rfl rfl rfl rfl rfl) ?_
 refine zab ?_
 refine zad ?_
 refine qh [([], []), ([2], []), ([], []), ([], []), ([], []), ([], []), ([0], []), ([], []), ([], [])] qJ (by kernel_rfl) ?_
 refine zae rfl rfl (zas rfl yL (ev1 rfl)) ?_
 refine zae rfl rfl (zat rfl kC (ev1 rfl) rfl rfl) ?_
 refine zae rfl rfl (zaj (.inl rfl) (ev1 rfl)) ?_
 refine zae rfl rfl (qC rfl (ev1 rfl) (fun s v h => by cases h; exact ⟨_, rfl⟩)) ?_
 refine zae rfl rfl (zas rfl kZ (ev1 rfl)) ?_
 refine zae rfl rfl (zas rfl vk (ev1 rfl)) ?_
 refine zae rfl rfl (zat rfl kC (ev1 rfl) rfl rfl) ?_
 refine zae rfl rfl (gI rfl (ev1 rfl) (ev1 rfl)) ?_
 refine zae rfl rfl (zak [] [] [] rfl (ev1 rfl) (ec (ev1 rfl) (ec (ev1 rfl) en)) rfl rfl (ky _ _ (by simp; omega)) rfl rfl rfl rfl rfl rfl) ?_
 refine ql ?_
 refine zad ?_
 refine zad ?_
 refine qh [([], []), ([2], []), ([], []), ([], []), ([], []), ([], []), ([0], []), ([], [])] qJ (by kernel_rfl) ?_
 refine zae rfl rfl (zas rfl yL (ev1 rfl)) ?_
 refine zae rfl rfl (zat rfl kC (ev1 rfl) rfl rfl) ?_
 refine zae rfl rfl (zaj (.inl rfl) (ev1 rfl)) ?_
 refine zae rfl rfl (qC rfl (ev1 rfl) (fun s v h => by cases h; exact ⟨_, rfl⟩)) ?_
 refine zae rfl rfl (zas rfl kZ (ev1 rfl)) ?_
 refine zae rfl rfl (zas rfl vk (ev1 rfl)) ?_
 refine zae rfl rfl (zat rfl kC (ev1 rfl) rfl rfl) ?_
 refine zae rfl rfl (kg rfl (ev1 rfl) (ev1 rfl)) ?_
 refine ql ?_
 refine qf rfl (by simp; omega) ?_
 refine zao ?_
 refine zad ?_
 refine y0 8 [([], []), ([2], []), ([], []), ([], []), ([], []), ([], []), ([0], []), ([], [])] qJ (by kernel_rfl) rfl rfl ?_
 refine zae rfl rfl (zas rfl vJ (ev1 rfl)) ?_
 refine zae rfl rfl (zat rfl tb3 (ev1 rfl) rfl rfl) ?_
 refine zae rfl rfl (zaj (.inl rfl) (ev1 rfl)) ?_
 refine zae rfl rfl (qC rfl (ev1 rfl) (fun s v h => by cases h; exact ⟨_, rfl⟩)) ?_
 refine zae rfl rfl (zas rfl kZ (ev1 rfl)) ?_
 refine zae rfl rfl (zas rfl u4 (ev1 rfl)) ?_
 refine zae rfl rfl (zat rfl tb3 (ev1 rfl) rfl rfl) ?_
 refine zae rfl rfl (qj rfl (ev1 rfl) (ev1 rfl)) ?_
 refine ql ⟨_, _, _, rfl, qQ [] [] [] rfl (ev1 rfl) (ec (ev1 rfl) (ec (ev1 rfl) en)) rfl rfl (yc _ _ (by simpa using h3)) rfl rfl rfl rfl rfl rfl, ?_⟩
 refine Gp [0, 1] rfl rfl ?_ ⟨rfl, qH rfl rfl (fun _ => rfl), trivial⟩
 rfl
theorem XZ (p : PiM) (x : PcM) (hx : pcB x = true) (h2 : x.sn = p.sn) (h3 : x.mn = p.mn) (h4 : x.ix.toNat < p.ps.length) (h5 : emp p.ps[x.ix.toNat] = false) : DPan Tryz.prog 72 [.loc 0 0, .agg (pcD x)] [.mix 118 [.val (.int .u64 p.sn), .val (.int .i64 p.mn), .arr 1], .arx 30 1 (p.ps).length ((p.ps).flatMap fun b => [rwB b])] (.ifc 125 (.val (.agg #[.int .i64 5]))) [.mix 118 [.val (.int .u64 p.sn), .val (.int .i64 p.mn), .arr 1], .arx 30 1 (p.ps).length ((p.ps).flatMap fun b => [rwB b])] := by
 refine zap (N := 68) 2 (by kernel_rfl) Tryz.func72 rfl rfl rfl (by simp only [fr0, qbh, qbj]; exact rfl) rfl fun s0 hs0 => ?_
 refine zad ?_
 have hpx := pcB_iff.1 hx
 refine zam 1 ?_
 refine zac ?_
 refine zal rfl (qp 2 rfl (ev1 rfl) rfl) ?_
 refine zab ?_
 refine zai ?_
 refine za rfl (qe rfl ye (ev1 rfl) rfl rfl) ?_
 refine za rfl (zak [] [] [] rfl (ev1 rfl) (ec (ev1 rfl) en) rfl rfl (u5 x) rfl rfl rfl rfl rfl rfl) ?_
 refine za rfl (qj rfl (ev1 rfl) (ev1 rfl)) ?_
 refine za rfl (zak [] [] [] rfl (ev1 rfl) (ec (ev1 rfl) (ec (ev1 rfl) en)) rfl rfl (ky _ _ (by rw [hx]; rfl)) rfl rfl rfl rfl rfl rfl) ?_
 refine zab ?_
 refine zad ?_
 refine qh [([], []), ([2], []), ([], []), ([], []), ([], []), ([], []), ([0], []), ([], []), ([], [])] qJ (by kernel_rfl) ?_
 refine zae rfl rfl (zas rfl yL (ev1 rfl)) ?_
 refine zae rfl rfl (zat rfl kC (ev1 rfl) rfl rfl) ?_
 refine zae rfl rfl (zaj (.inl rfl) (ev1 rfl)) ?_
 refine zae rfl rfl (qC rfl (ev1 rfl) (fun s v h => by cases h; exact ⟨_, rfl⟩)) ?_
 refine zae rfl rfl (zas rfl kZ (ev1 rfl)) ?_
 refine zae rfl rfl (zas rfl vk (ev1 rfl)) ?_
 refine zae rfl rfl (zat rfl kC (ev1 rfl) rfl rfl) ?_
 refine zae rfl rfl (gI rfl (ev1 rfl) (ev1 rfl)) ?_
 refine zae rfl rfl (zak [] [] [] rfl (ev1 rfl) (ec (ev1 rfl) (ec (ev1 rfl) en)) rfl rfl (ky _ _ (by simp; omega)) rfl rfl rfl rfl rfl rfl) ?_
 refine ql ?_
 refine zad ?_
 refine zad ?_
 refine qh [([], []), ([2], []), ([], []), ([], []), ([], []), ([], []), ([0], []), ([], [])] qJ (by kernel_rfl) ?_
 refine zae rfl rfl (zas rfl yL (ev1 rfl)) ?_
 refine zae rfl rfl (zat rfl kC (ev1 rfl) rfl rfl) ?_
 refine zae rfl rfl (zaj (.inl rfl) (ev1 rfl)) ?_
 refine zae rfl rfl (qC rfl (ev1 rfl) (fun s v h => by cases h; exact ⟨_, rfl⟩)) ?_
 refine zae rfl rfl (zas rfl kZ (ev1 rfl)) ?_
 refine zae rfl rfl (zas rfl vk (ev1 rfl)) ?_
 refine zae rfl rfl (zat rfl kC (ev1 rfl) rfl rfl) ?_
 refine zae rfl rfl (kg rfl (ev1 rfl) (ev1 rfl)) ?_
 refine ql ?_
 refine qf rfl (by simp; omega) ?_
 refine zao ?_
 refine zad ?_
 refine qh [([], []), ([2], []), ([], []), ([], []), ([], []), ([], []), ([0], []), ([], []), ([], [])] qJ (by kernel_rfl) ?_
 refine zae rfl rfl (zas rfl vJ (ev1 rfl)) ?_
 refine zae rfl rfl (zat rfl tb3 (ev1 rfl) rfl rfl) ?_
 refine zae rfl rfl (zaj (.inl rfl) (ev1 rfl)) ?_
 refine zae rfl rfl (qC rfl (ev1 rfl) (fun s v h => by cases h; exact ⟨_, rfl⟩)) ?_
 refine zae rfl rfl (zas rfl kZ (ev1 rfl)) ?_
 refine zae rfl rfl (zas rfl u4 (ev1 rfl)) ?_
 refine zae rfl rfl (zat rfl tb3 (ev1 rfl) rfl rfl) ?_
 refine zae rfl rfl (qj rfl (ev1 rfl) (ev1 rfl)) ?_
 refine zae rfl rfl (zak [] [] [] rfl (ev1 rfl) (ec (ev1 rfl) (ec (ev1 rfl) en)) rfl rfl (ky _ _ (by simpa using h3)) rfl rfl rfl rfl rfl rfl) ?_
 refine ql ?_
 refine zad ?_
 refine y0 11 [([], []), ([], []), ([], []), ([], []), ([0], []), ([], []), ([2], []), ([1], []), ([1], []), ([], []), ([], [])] qJ (by kernel_rfl) rfl rfl ?_
 refine zae rfl rfl (zaj (.inl rfl) (ev1 rfl)) ?_
 refine zae rfl rfl (qC rfl (ev1 rfl) (fun s v h => by cases h; exact ⟨_, rfl⟩)) ?_
 refine zae rfl rfl (zas rfl kZ (ev1 rfl)) ?_
 refine zae rfl rfl (zas rfl yr (ev1 rfl)) ?_
 refine zae rfl rfl (zat rfl zh (ev1 rfl) rfl rfl) ?_
 refine zae rfl rfl (zas rfl wY (ev1 rfl)) ?_
 refine zae rfl rfl (zat rfl tb3 (ev1 rfl) rfl rfl) ?_
 refine zae rfl rfl (xX (x.ix.toNat) rfl g9 (ev1 rfl) (ev1 rfl) rfl (fun _ => by omega) (fun _ => by omega)) ?_
 refine zae rfl rfl (QE rfl jg (ev1 rfl) rfl (XV h4)) ?_
 refine zae rfl rfl (qm rfl qg (ev1 rfl)) ?_
 refine zae rfl rfl (qj rfl (ev1 rfl) (ev1 rfl)) ?_
 refine ql ⟨_, _, _, rfl, qQ [] [] [] rfl (ev1 rfl) (ec (ev1 rfl) (ec (ev1 rfl) en)) rfl rfl (yc _ _ (h5)) rfl rfl rfl rfl rfl rfl, ?_⟩
 refine Gp [0, 1] rfl rfl ?_ ⟨rfl, qH rfl rfl (fun _ => rfl), trivial⟩
 rfl
theorem Au (p : PiM) (x : PcM) (hx : pcB x = true) (h2 : x.sn = p.sn) (h3 : x.mn = p.mn) (h4 : x.ix.toNat < p.ps.length) (h5 : emp p.ps[x.ix.toNat] = true) : DFun Tryz.prog 72 [.loc 0 0, .agg (pcD x)] [.mix 118 [.val (.int .u64 p.sn), .val (.int .i64 p.mn), .arr 1], .arx 30 1 (p.ps).length ((p.ps).flatMap fun b => [rwB b])] (.tup []) [.mix 118 [.val (.int .u64 p.sn), .val (.int .i64 p.mn), .arr 1], .arx 30 1 p.ps.length ((p.ps.set x.ix.toNat x.b).flatMap fun b => [rwB b])] := by
 refine zap (N := 68) 2 (by kernel_rfl) Tryz.func72 rfl rfl rfl (by simp only [fr0, qbh, qbj]; exact rfl) rfl fun s0 hs0 => ?_
 refine zad ?_
 have hpx := pcB_iff.1 hx
 refine zam 1 ?_
 refine zac ?_
 refine zal rfl (qp 2 rfl (ev1 rfl) rfl) ?_
 refine zab ?_
 refine zai ?_
 refine za rfl (qe rfl ye (ev1 rfl) rfl rfl) ?_
 refine za rfl (zak [] [] [] rfl (ev1 rfl) (ec (ev1 rfl) en) rfl rfl (u5 x) rfl rfl rfl rfl rfl rfl) ?_
 refine za rfl (qj rfl (ev1 rfl) (ev1 rfl)) ?_
 refine za rfl (zak [] [] [] rfl (ev1 rfl) (ec (ev1 rfl) (ec (ev1 rfl) en)) rfl rfl (ky _ _ (by rw [hx]; rfl)) rfl rfl rfl rfl rfl rfl) ?_
 refine zab ?_
 refine zad ?_
 refine qh [([], []), ([2], []), ([], []), ([], []), ([], []), ([], []), ([0], []), ([], []), ([], [])] qJ (by kernel_rfl) ?_
 refine zae rfl rfl (zas rfl yL (ev1 rfl)) ?_
 refine zae rfl rfl (zat rfl kC (ev1 rfl) rfl rfl) ?_
 refine zae rfl rfl (zaj (.inl rfl) (ev1 rfl)) ?_
 refine zae rfl rfl (qC rfl (ev1 rfl) (fun s v h => by cases h; exact ⟨_, rfl⟩)) ?_
 refine zae rfl rfl (zas rfl kZ (ev1 rfl)) ?_
 refine zae rfl rfl (zas rfl vk (ev1 rfl)) ?_
 refine zae rfl rfl (zat rfl kC (ev1 rfl) rfl rfl) ?_
 refine zae rfl rfl (gI rfl (ev1 rfl) (ev1 rfl)) ?_
 refine zae rfl rfl (zak [] [] [] rfl (ev1 rfl) (ec (ev1 rfl) (ec (ev1 rfl) en)) rfl rfl (ky _ _ (by simp; omega)) rfl rfl rfl rfl rfl rfl) ?_
 refine ql ?_
 refine zad ?_
 refine zad ?_
 refine qh [([], []), ([2], []), ([], []), ([], []), ([], []), ([], []), ([0], []), ([], [])] qJ (by kernel_rfl) ?_
 refine zae rfl rfl (zas rfl yL (ev1 rfl)) ?_
 refine zae rfl rfl (zat rfl kC (ev1 rfl) rfl rfl) ?_
 refine zae rfl rfl (zaj (.inl rfl) (ev1 rfl)) ?_
 refine zae rfl rfl (qC rfl (ev1 rfl) (fun s v h => by cases h; exact ⟨_, rfl⟩)) ?_
 refine zae rfl rfl (zas rfl kZ (ev1 rfl)) ?_
 refine zae rfl rfl (zas rfl vk (ev1 rfl)) ?_
 refine zae rfl rfl (zat rfl kC (ev1 rfl) rfl rfl) ?_
 refine zae rfl rfl (kg rfl (ev1 rfl) (ev1 rfl)) ?_
 refine ql ?_
 refine qf rfl (by simp; omega) ?_
 refine zao ?_
 refine zad ?_
 refine qh [([], []), ([2], []), ([], []), ([], []), ([], []), ([], []), ([0], []), ([], []), ([], [])] qJ (by kernel_rfl) ?_
 refine zae rfl rfl (zas rfl vJ (ev1 rfl)) ?_
 refine zae rfl rfl (zat rfl tb3 (ev1 rfl) rfl rfl) ?_
 refine zae rfl rfl (zaj (.inl rfl) (ev1 rfl)) ?_
 refine zae rfl rfl (qC rfl (ev1 rfl) (fun s v h => by cases h; exact ⟨_, rfl⟩)) ?_
 refine zae rfl rfl (zas rfl kZ (ev1 rfl)) ?_
 refine zae rfl rfl (zas rfl u4 (ev1 rfl)) ?_
 refine zae rfl rfl (zat rfl tb3 (ev1 rfl) rfl rfl) ?_
 refine zae rfl rfl (qj rfl (ev1 rfl) (ev1 rfl)) ?_
 refine zae rfl rfl (zak [] [] [] rfl (ev1 rfl) (ec (ev1 rfl) (ec (ev1 rfl) en)) rfl rfl (ky _ _ (by simpa using h3)) rfl rfl rfl rfl rfl rfl) ?_
 refine ql ?_
 refine zad ?_
 refine qh [([], []), ([], []), ([], []), ([], []), ([0], []), ([], []), ([2], []), ([1], []), ([1], []), ([], []), ([], []), ([], [])] qJ (by kernel_rfl) ?_
 refine zae rfl rfl (zaj (.inl rfl) (ev1 rfl)) ?_
 refine zae rfl rfl (qC rfl (ev1 rfl) (fun s v h => by cases h; exact ⟨_, rfl⟩)) ?_
 refine zae rfl rfl (zas rfl kZ (ev1 rfl)) ?_
 refine zae rfl rfl (zas rfl yr (ev1 rfl)) ?_
 refine zae rfl rfl (zat rfl zh (ev1 rfl) rfl rfl) ?_
 refine zae rfl rfl (zas rfl wY (ev1 rfl)) ?_
 refine zae rfl rfl (zat rfl tb3 (ev1 rfl) rfl rfl) ?_
 refine zae rfl rfl (xX (x.ix.toNat) rfl g9 (ev1 rfl) (ev1 rfl) rfl (fun _ => by omega) (fun _ => by omega)) ?_
 refine zae rfl rfl (QE rfl jg (ev1 rfl) rfl (XV h4)) ?_
 refine zae rfl rfl (qm rfl qg (ev1 rfl)) ?_
 refine zae rfl rfl (qj rfl (ev1 rfl) (ev1 rfl)) ?_
 refine zae rfl rfl (zak [] [] [] rfl (ev1 rfl) (ec (ev1 rfl) (ec (ev1 rfl) en)) rfl rfl (ky _ _ (h5)) rfl rfl rfl rfl rfl rfl) ?_
 refine ql ?_
 refine qh [([], []), ([], []), ([], []), ([], []), ([0], []), ([], []), ([2], []), ([], []), ([2], []), ([], []), ([1], []), ([1], [1])] qJ (by kernel_rfl) ?_
 refine zae rfl rfl (zaj (.inl rfl) (ev1 rfl)) ?_
 refine zae rfl rfl (qC rfl (ev1 rfl) (fun s v h => by cases h; exact ⟨_, rfl⟩)) ?_
 refine zae rfl rfl (zas rfl kZ (ev1 rfl)) ?_
 refine zae rfl rfl (zas rfl yr (ev1 rfl)) ?_
 refine zae rfl rfl (zat rfl zh (ev1 rfl) rfl rfl) ?_
 refine zae rfl rfl (zas rfl wY (ev1 rfl)) ?_
 refine zae rfl rfl (zat rfl tb3 (ev1 rfl) rfl rfl) ?_
 refine zae rfl rfl (zas rfl QY (ev1 rfl)) ?_
 refine zae rfl rfl (zat rfl jg (ev1 rfl) rfl rfl) ?_
 refine zae rfl rfl (zak [] [] [] rfl (ev1 rfl) (ec (ev1 rfl) en) rfl rfl (gC x.b (by omega)) rfl rfl rfl rfl rfl rfl) ?_
 refine zae rfl rfl (xX (x.ix.toNat) rfl g9 (ev1 rfl) (ev1 rfl) rfl (fun _ => by omega) (fun _ => by omega)) ?_
 refine jq rfl rfl (GC (j := x.ix.toNat) (g := rwB) (q := x.b) rfl jg (ev1 rfl) (ev1 rfl) rfl (by omega) (fun s v h => by cases h <;> exact ⟨rfl, rfl⟩)) rfl (by simp only [upd, zaf, zag]; exact rfl) ?_
 refine ql ?_
 refine km [0, 1] (qI rfl) rfl rfl ?_ ⟨?_, ?_, trivial⟩
 rfl
 rfl
 exact qH rfl rfl (fun _ => rfl)
theorem Av (p : PiM) (x : PcM) (hx : pcB x = true) (h2 : p.sn < x.sn) : DFun Tryz.prog 72 [.loc 0 0, .agg (pcD x)] [.mix 118 [.val (.int .u64 p.sn), .val (.int .i64 p.mn), .arr 1], .arx 30 1 (p.ps).length ((p.ps).flatMap fun b => [rwB b])] (.tup []) [.mix 118 [.val (.int .u64 x.sn), .val (.int .i64 x.mn), .arr 2], .arx 30 1 (p.ps).length ((p.ps).flatMap fun b => [rwB b]), .arx 30 1 x.mn.toNat (((qbs x.mn.toNat ([] : List Int)).set x.ix.toNat x.b).flatMap fun b => [rwB b])] := by
 refine zap (N := 68) 2 (by kernel_rfl) Tryz.func72 rfl rfl rfl (by simp only [fr0, qbh, qbj]; exact rfl) rfl fun s0 hs0 => ?_
 refine zad ?_
 have hpx := pcB_iff.1 hx
 refine zam 1 ?_
 refine zac ?_
 refine zal rfl (qp 2 rfl (ev1 rfl) rfl) ?_
 refine zab ?_
 refine zai ?_
 refine za rfl (qe rfl ye (ev1 rfl) rfl rfl) ?_
 refine za rfl (zak [] [] [] rfl (ev1 rfl) (ec (ev1 rfl) en) rfl rfl (u5 x) rfl rfl rfl rfl rfl rfl) ?_
 refine za rfl (qj rfl (ev1 rfl) (ev1 rfl)) ?_
 refine za rfl (zak [] [] [] rfl (ev1 rfl) (ec (ev1 rfl) (ec (ev1 rfl) en)) rfl rfl (ky _ _ (by rw [hx]; rfl)) rfl rfl rfl rfl rfl rfl) ?_
 refine zab ?_
 refine zad ?_
 refine qh [([], []), ([2], []), ([], []), ([], []), ([], []), ([], []), ([0], []), ([], []), ([], [])] qJ (by kernel_rfl) ?_
 refine zae rfl rfl (zas rfl yL (ev1 rfl)) ?_
 refine zae rfl rfl (zat rfl kC (ev1 rfl) rfl rfl) ?_
 refine zae rfl rfl (zaj (.inl rfl) (ev1 rfl)) ?_
 refine zae rfl rfl (qC rfl (ev1 rfl) (fun s v h => by cases h; exact ⟨_, rfl⟩)) ?_
 refine zae rfl rfl (zas rfl kZ (ev1 rfl)) ?_
 refine zae rfl rfl (zas rfl vk (ev1 rfl)) ?_
 refine zae rfl rfl (zat rfl kC (ev1 rfl) rfl rfl) ?_
 refine zae rfl rfl (gI rfl (ev1 rfl) (ev1 rfl)) ?_
 refine zae rfl rfl (zak [] [] [] rfl (ev1 rfl) (ec (ev1 rfl) (ec (ev1 rfl) en)) rfl rfl (ky _ _ (by simp; omega)) rfl rfl rfl rfl rfl rfl) ?_
 refine ql ?_
 refine zad ?_
 refine zad ?_
 refine qh [([], []), ([2], []), ([], []), ([], []), ([], []), ([], []), ([0], []), ([], [])] qJ (by kernel_rfl) ?_
 refine zae rfl rfl (zas rfl yL (ev1 rfl)) ?_
 refine zae rfl rfl (zat rfl kC (ev1 rfl) rfl rfl) ?_
 refine zae rfl rfl (zaj (.inl rfl) (ev1 rfl)) ?_
 refine zae rfl rfl (qC rfl (ev1 rfl) (fun s v h => by cases h; exact ⟨_, rfl⟩)) ?_
 refine zae rfl rfl (zas rfl kZ (ev1 rfl)) ?_
 refine zae rfl rfl (zas rfl vk (ev1 rfl)) ?_
 refine zae rfl rfl (zat rfl kC (ev1 rfl) rfl rfl) ?_
 refine zae rfl rfl (kg rfl (ev1 rfl) (ev1 rfl)) ?_
 refine ql ?_
 refine qt rfl (by simp; omega) ?_
 refine zam 1 ?_
 refine qh [([], []), ([], []), ([2], []), ([], []), ([2], []), ([], []), ([2], []), ([3], [3]), ([], []), ([], []), ([], []), ([0], [0])] qJ (by kernel_rfl) ?_
 refine zae rfl rfl (zaj (.inl rfl) (ev1 rfl)) ?_
 refine zae rfl rfl (zas rfl yL (ev1 rfl)) ?_
 refine zae rfl rfl (zat rfl kC (ev1 rfl) rfl rfl) ?_
 refine zae rfl rfl (zas rfl vJ (ev1 rfl)) ?_
 refine zae rfl rfl (zat rfl tb3 (ev1 rfl) rfl rfl) ?_
 refine zae rfl rfl (zas rfl vJ (ev1 rfl)) ?_
 refine zae rfl rfl (zat rfl tb3 (ev1 rfl) rfl rfl) ?_
 refine gg rfl rfl (QJ 3 (x.mn.toNat) (.slice none 0 0) rfl g9 U9 (rfl) (by decide) (ev1 rfl) (ev1 rfl) (fun _ => by omega) (fun _ => by omega) rfl (fun _ => by omega)) rfl (by simp only [upd, zaf, zag]; exact rfl) ?_
 refine zae rfl rfl (gc (ps := [(0, .tmp 27), (1, .tmp 29), (2, .tmp 32)]) rfl fl61 uw (ec (ev1 rfl) (ec (ev1 rfl) (ec (ev1 rfl) en))) rfl rfl rfl) ?_
 refine zae rfl rfl (qC rfl (ev1 rfl) (fun s v h => by cases h; exact ⟨_, rfl⟩)) ?_
 refine zae rfl rfl (zas rfl kZ (ev1 rfl)) ?_
 refine jq rfl rfl (GA rfl jp (ev1 rfl) (ev1 rfl) rfl rfl rfl rfl) rfl (by simp only [upd, zaf, zag]; exact rfl) ?_
 refine ql ?_
 refine zad ?_
 refine jf 3 Y9 rfl rfl (by simp only [qbp, qbq, zaf, zag, List.map]; exact rfl) ?_
 refine qh [([], []), ([2], []), ([], []), ([], []), ([], []), ([], []), ([0], []), ([], []), ([], [])] qJ (by kernel_rfl) ?_
 refine zae rfl rfl (zas rfl vJ (ev1 rfl)) ?_
 refine zae rfl rfl (zat rfl tb3 (ev1 rfl) rfl rfl) ?_
 refine zae rfl rfl (zaj (.inl rfl) (ev1 rfl)) ?_
 refine zae rfl rfl (qC rfl (ev1 rfl) (fun s v h => by cases h; exact ⟨_, rfl⟩)) ?_
 refine zae rfl rfl (zas rfl kZ (ev1 rfl)) ?_
 refine zae rfl rfl (zas rfl u4 (ev1 rfl)) ?_
 refine zae rfl rfl (zat rfl tb3 (ev1 rfl) rfl rfl) ?_
 refine zae rfl rfl (qj rfl (ev1 rfl) (ev1 rfl)) ?_
 refine zae rfl rfl (zak [] [] [] rfl (ev1 rfl) (ec (ev1 rfl) (ec (ev1 rfl) en)) rfl rfl (ky _ _ (by simp)) rfl rfl rfl rfl rfl rfl) ?_
 refine ql ?_
 refine zad ?_
 refine qh [([], []), ([], []), ([], []), ([], []), ([0], []), ([], []), ([2], []), ([3], []), ([3], []), ([], []), ([], []), ([], [])] qJ (by kernel_rfl) ?_
 refine zae rfl rfl (zaj (.inl rfl) (ev1 rfl)) ?_
 refine zae rfl rfl (qC rfl (ev1 rfl) (fun s v h => by cases h; exact ⟨_, rfl⟩)) ?_
 refine zae rfl rfl (zas rfl kZ (ev1 rfl)) ?_
 refine zae rfl rfl (zas rfl yr (ev1 rfl)) ?_
 refine zae rfl rfl (zat rfl zh (ev1 rfl) rfl rfl) ?_
 refine zae rfl rfl (zas rfl wY (ev1 rfl)) ?_
 refine zae rfl rfl (zat rfl tb3 (ev1 rfl) rfl rfl) ?_
 refine zae rfl rfl (xX (x.ix.toNat) rfl g9 (ev1 rfl) (ev1 rfl) rfl (fun _ => by omega) (fun _ => by rw [qbv]; omega)) ?_
 refine zae rfl rfl (QE rfl jg (ev1 rfl) rfl (XV (by rw [qbv]; omega))) ?_
 refine zae rfl rfl (qm rfl qg (ev1 rfl)) ?_
 refine zae rfl rfl (qj rfl (ev1 rfl) (ev1 rfl)) ?_
 refine zae rfl rfl (zak [] [] [] rfl (ev1 rfl) (ec (ev1 rfl) (ec (ev1 rfl) en)) rfl rfl (ky _ _ (by rw [List.getElem_replicate]; rfl)) rfl rfl rfl rfl rfl rfl) ?_
 refine ql ?_
 refine qh [([], []), ([], []), ([], []), ([], []), ([0], []), ([], []), ([2], []), ([], []), ([2], []), ([], []), ([3], []), ([3], [3])] qJ (by kernel_rfl) ?_
 refine zae rfl rfl (zaj (.inl rfl) (ev1 rfl)) ?_
 refine zae rfl rfl (qC rfl (ev1 rfl) (fun s v h => by cases h; exact ⟨_, rfl⟩)) ?_
 refine zae rfl rfl (zas rfl kZ (ev1 rfl)) ?_
 refine zae rfl rfl (zas rfl yr (ev1 rfl)) ?_
 refine zae rfl rfl (zat rfl zh (ev1 rfl) rfl rfl) ?_
 refine zae rfl rfl (zas rfl wY (ev1 rfl)) ?_
 refine zae rfl rfl (zat rfl tb3 (ev1 rfl) rfl rfl) ?_
 refine zae rfl rfl (zas rfl QY (ev1 rfl)) ?_
 refine zae rfl rfl (zat rfl jg (ev1 rfl) rfl rfl) ?_
 refine zae rfl rfl (zak [] [] [] rfl (ev1 rfl) (ec (ev1 rfl) en) rfl rfl (gC x.b (by omega)) rfl rfl rfl rfl rfl rfl) ?_
 refine zae rfl rfl (xX (x.ix.toNat) rfl g9 (ev1 rfl) (ev1 rfl) rfl (fun _ => by omega) (fun _ => by rw [qbv]; omega)) ?_
 refine jq rfl rfl (GC (j := x.ix.toNat) (g := rwB) (q := x.b) rfl jg (ev1 rfl) (ev1 rfl) rfl (by rw [qbv]; omega) (fun s v h => by cases h <;> exact ⟨rfl, rfl⟩)) rfl (by simp only [upd, zaf, zag]; exact rfl) ?_
 refine ql ?_
 refine km [0, 1, 3] (qI rfl) rfl rfl ?_ ⟨?_, ?_, ?_, trivial⟩
 rfl
 rfl
 exact qH rfl rfl (fun _ => rfl)
 exact qH (qbv ..) rfl (fun _ => rfl)
end Go.Proofs.YtofklkbfkoliiaaGreat
namespace Go.Proofs.YtofklkbfkoliiaaGreat
set_option linter.unusedVariables false
set_option linter.unusedSimpArgs false
open Go.RowKit
attribute [local irreducible] tkN k6 kw
theorem J0 (e : Int) : DDef Tryz.prog 104 [.loc 0 0] [.flat 34 [.int .i64 e]] none none [.flat 34 [.int .i64 0]] := by
 refine jE (dr := .tup []) (t := 1) (N := 3) 1 (by kernel_rfl) Tryz.func104 rfl rfl rfl (by simp only [fr0, qbh, qbj]; exact rfl) rfl rfl rfl rfl rfl fun s0 hs0 => ?_
 refine za rfl (zak [] [] [] rfl (ev1 rfl) (ec (ev1 rfl) en) rfl rfl (vY) rfl rfl rfl rfl rfl rfl) ?_
 refine zaq rfl (qN rfl kc (ev1 rfl) (ev1 rfl) rfl) ?_
 refine zab ?_
 refine km [0] (qI rfl) rfl rfl ?_ ⟨rfl, trivial⟩
 rfl
theorem vv (e n : Int) : DDef Tryz.prog 104 [.loc 0 0] [.flat 34 [.int .i64 e]] (some (.ifc 125 (.val (.agg #[.int .i64 n])))) none [.flat 34 [.int .i64 n]] := by
 refine jE (dr := .tup []) (t := 1) (N := 3) 1 (by kernel_rfl) Tryz.func104 rfl rfl rfl (by simp only [fr0, qbh, qbj]; exact rfl) rfl rfl rfl rfl rfl fun s0 hs0 => ?_
 refine za rfl (zak [] [] [] rfl (ev1 rfl) (ec (ev1 rfl) en) rfl rfl (xK n) rfl rfl rfl rfl rfl rfl) ?_
 refine zaq rfl (qN rfl kc (ev1 rfl) (ev1 rfl) rfl) ?_
 refine zab ?_
 refine km [0] (qI rfl) rfl rfl ?_ ⟨rfl, trivial⟩
 rfl
theorem K0 (e : Int) : DDef Tryz.prog 70 [.loc 0 0] [.flat 34 [.int .i64 e]] none none [.flat 34 [.int .i64 0]] := by
 refine jE (dr := .tup []) (t := 1) (N := 3) 1 (by kernel_rfl) Tryz.func70 rfl rfl rfl (by simp only [fr0, qbh, qbj]; exact rfl) rfl rfl rfl rfl rfl fun s0 hs0 => ?_
 refine za rfl (zak [] [] [] rfl (ev1 rfl) (ec (ev1 rfl) en) rfl rfl (vY) rfl rfl rfl rfl rfl rfl) ?_
 refine zaq rfl (qN rfl kc (ev1 rfl) (ev1 rfl) rfl) ?_
 refine zab ?_
 refine km [0] (qI rfl) rfl rfl ?_ ⟨rfl, trivial⟩
 rfl
theorem yT (e n : Int) : DDef Tryz.prog 70 [.loc 0 0] [.flat 34 [.int .i64 e]] (some (.ifc 125 (.val (.agg #[.int .i64 n])))) none [.flat 34 [.int .i64 n]] := by
 refine jE (dr := .tup []) (t := 1) (N := 3) 1 (by kernel_rfl) Tryz.func70 rfl rfl rfl (by simp only [fr0, qbh, qbj]; exact rfl) rfl rfl rfl rfl rfl fun s0 hs0 => ?_
 refine za rfl (zak [] [] [] rfl (ev1 rfl) (ec (ev1 rfl) en) rfl rfl (xK n) rfl rfl rfl rfl rfl rfl) ?_
 refine zaq rfl (qN rfl kc (ev1 rfl) (ev1 rfl) rfl) ?_
 refine zab ?_
 refine km [0] (qI rfl) rfl rfl ?_ ⟨rfl, trivial⟩
 rfl
theorem Qa (e : Int) : DDef Tryz.prog 75 [.loc 0 0] [.flat 34 [.int .i64 e]] none none [.flat 34 [.int .i64 0]] := by
 refine jE (dr := .tup []) (t := 1) (N := 3) 1 (by kernel_rfl) Tryz.func75 rfl rfl rfl (by simp only [fr0, qbh, qbj]; exact rfl) rfl rfl rfl rfl rfl fun s0 hs0 => ?_
 refine za rfl (zak [] [] [] rfl (ev1 rfl) (ec (ev1 rfl) en) rfl rfl (vY) rfl rfl rfl rfl rfl rfl) ?_
 refine zaq rfl (qN rfl kc (ev1 rfl) (ev1 rfl) rfl) ?_
 refine zab ?_
 refine km [0] (qI rfl) rfl rfl ?_ ⟨rfl, trivial⟩
 rfl
theorem QZ (e : Int) : DDef Tryz.prog 63 [.loc 0 0] [.flat 34 [.int .i64 e]] none none [.flat 34 [.int .i64 0]] := by
 refine jE (dr := .tup []) (t := 1) (N := 3) 1 (by kernel_rfl) Tryz.func63 rfl rfl rfl (by simp only [fr0, qbh, qbj]; exact rfl) rfl rfl rfl rfl rfl fun s0 hs0 => ?_
 refine za rfl (zak [] [] [] rfl (ev1 rfl) (ec (ev1 rfl) en) rfl rfl (vY) rfl rfl rfl rfl rfl rfl) ?_
 refine zaq rfl (qN rfl kc (ev1 rfl) (ev1 rfl) rfl) ?_
 refine zab ?_
 refine km [0] (qI rfl) rfl rfl ?_ ⟨rfl, trivial⟩
 rfl
theorem GS (e : Int) : DDef Tryz.prog 45 [.loc 0 0] [.flat 34 [.int .i64 e]] none none [.flat 34 [.int .i64 0]] := by
 refine jE (dr := .tup []) (t := 1) (N := 3) 1 (by kernel_rfl) Tryz.func45 rfl rfl rfl (by simp only [fr0, qbh, qbj]; exact rfl) rfl rfl rfl rfl rfl fun s0 hs0 => ?_
 refine za rfl (zak [] [] [] rfl (ev1 rfl) (ec (ev1 rfl) en) rfl rfl (vY) rfl rfl rfl rfl rfl rfl) ?_
 refine zaq rfl (qN rfl kc (ev1 rfl) (ev1 rfl) rfl) ?_
 refine zab ?_
 refine km [0] (qI rfl) rfl rfl ?_ ⟨rfl, trivial⟩
 rfl
theorem K1 (e n : Int) : DDef Tryz.prog 45 [.loc 0 0] [.flat 34 [.int .i64 e]] (some (.ifc 125 (.val (.agg #[.int .i64 n])))) none [.flat 34 [.int .i64 n]] := by
 refine jE (dr := .tup []) (t := 1) (N := 3) 1 (by kernel_rfl) Tryz.func45 rfl rfl rfl (by simp only [fr0, qbh, qbj]; exact rfl) rfl rfl rfl rfl rfl fun s0 hs0 => ?_
 refine za rfl (zak [] [] [] rfl (ev1 rfl) (ec (ev1 rfl) en) rfl rfl (xK n) rfl rfl rfl rfl rfl rfl) ?_
 refine zaq rfl (qN rfl kc (ev1 rfl) (ev1 rfl) rfl) ?_
 refine zab ?_
 refine km [0] (qI rfl) rfl rfl ?_ ⟨rfl, trivial⟩
 rfl
theorem qaO (p : PiM) (x : PcM) (hx : pcB x = false) : DFun Tryz.prog 76 [.loc 0 0, .agg (pcD x)] [.mix 118 [.val (.int .u64 p.sn), .val (.int .i64 p.mn), .arr 1], .arx 30 1 (p.ps).length ((p.ps).flatMap fun b => [rwB b])] (.val (.int .i64 311)) [.mix 118 [.val (.int .u64 p.sn), .val (.int .i64 p.mn), .arr 1], .arx 30 1 (p.ps).length ((p.ps).flatMap fun b => [rwB b])] := by
 refine qA (N := 9) 2 (by kernel_rfl) Tryz.func76 rfl rfl rfl (by simp only [fr0, qbh, qbj]; exact rfl) rfl fun s0 hs0 => ?_
 refine qP rfl hs0 ?_
 refine zam 2 ?_
 refine zac ?_
 refine zal rfl (qp 2 rfl (ev1 rfl) rfl) ?_
 refine zal rfl (zan 3 rfl gB rfl) ?_
 refine zab ?_
 refine qD (l0 := [_]) rfl rfl rfl rfl rfl hs0 ?_
 refine za rfl (ki rfl en (ec (ev1 rfl) en)) ?_
 refine zab ⟨_, _, _, 4, ev1 rfl, qbE hs0 (by decide), rfl, ?_⟩
 have hs1 : s0.M.length ≤ 4 := qbE hs0 (by decide)
 refine qO rfl hs0 ?_
 refine zai ?_
 refine zaa 1 rfl ?_
 refine za rfl (qe rfl ye (ev1 rfl) rfl rfl) ?_
 refine kz rfl (qQ [0, 1] [] [] rfl (ev1 rfl) (ec (ev1 rfl) (ec (ev1 rfl) en)) rfl (by exact jW _ _ ⟨rfl, (by first | exact rfl | exact arx_fits rfl rfl (vwL_flat (fun _ => rfl) _) | exact kL rfl rfl (qw (fun _ => rfl) _) | exact qH rfl rfl (fun _ => rfl) | exact kM rfl rfl (fun _ => rfl)), trivial⟩) (XW p x hx) rfl rfl rfl (by exact (wrc rfl (wrc (by first | exact rfl | exact kX (fun _ => rfl) | exact kD (qw (fun _ => rfl) _) | exact kE (fun _ => rfl) | exact kF (fun _ => rfl)) rfl))) rfl rfl) rfl ?_
 refine gq (qZ [3] [] rfl rfl rfl (vv _ _) rfl rfl rfl rfl rfl) ?_
 refine km [0, 1] (rs1 rfl (j4 kc rfl rfl rfl)) rfl rfl ?_ ⟨rfl, qH rfl rfl (fun _ => rfl), trivial⟩
 rfl
theorem qaP (p : PiM) (x : PcM) (hx : pcB x = true) (h2 : x.sn < p.sn) : DFun Tryz.prog 76 [.loc 0 0, .agg (pcD x)] [.mix 118 [.val (.int .u64 p.sn), .val (.int .i64 p.mn), .arr 1], .arx 30 1 (p.ps).length ((p.ps).flatMap fun b => [rwB b])] (.val (.int .i64 241)) [.mix 118 [.val (.int .u64 p.sn), .val (.int .i64 p.mn), .arr 1], .arx 30 1 (p.ps).length ((p.ps).flatMap fun b => [rwB b])] := by
 refine qA (N := 9) 2 (by kernel_rfl) Tryz.func76 rfl rfl rfl (by simp only [fr0, qbh, qbj]; exact rfl) rfl fun s0 hs0 => ?_
 refine qP rfl hs0 ?_
 refine zam 2 ?_
 refine zac ?_
 refine zal rfl (qp 2 rfl (ev1 rfl) rfl) ?_
 refine zal rfl (zan 3 rfl gB rfl) ?_
 refine zab ?_
 refine qD (l0 := [_]) rfl rfl rfl rfl rfl hs0 ?_
 refine za rfl (ki rfl en (ec (ev1 rfl) en)) ?_
 refine zab ⟨_, _, _, 4, ev1 rfl, qbE hs0 (by decide), rfl, ?_⟩
 have hs1 : s0.M.length ≤ 4 := qbE hs0 (by decide)
 refine qO rfl hs0 ?_
 refine zai ?_
 refine zaa 1 rfl ?_
 refine za rfl (qe rfl ye (ev1 rfl) rfl rfl) ?_
 refine kz rfl (qQ [0, 1] [] [] rfl (ev1 rfl) (ec (ev1 rfl) (ec (ev1 rfl) en)) rfl (by exact jW _ _ ⟨rfl, (by first | exact rfl | exact arx_fits rfl rfl (vwL_flat (fun _ => rfl) _) | exact kL rfl rfl (qw (fun _ => rfl) _) | exact qH rfl rfl (fun _ => rfl) | exact kM rfl rfl (fun _ => rfl)), trivial⟩) (XX p x hx h2) rfl rfl rfl (by exact (wrc rfl (wrc (by first | exact rfl | exact kX (fun _ => rfl) | exact kD (qw (fun _ => rfl) _) | exact kE (fun _ => rfl) | exact kF (fun _ => rfl)) rfl))) rfl rfl) rfl ?_
 refine gq (qZ [3] [] rfl rfl rfl (vv _ _) rfl rfl rfl rfl rfl) ?_
 refine km [0, 1] (rs1 rfl (j4 kc rfl rfl rfl)) rfl rfl ?_ ⟨rfl, qH rfl rfl (fun _ => rfl), trivial⟩
 rfl
theorem qaQ (p : PiM) (x : PcM) (hx : pcB x = true) (h2 : x.sn = p.sn) (h3 : x.mn ≠ p.mn) : DFun Tryz.prog 76 [.loc 0 0, .agg (pcD x)] [.mix 118 [.val (.int .u64 p.sn), .val (.int .i64 p.mn), .arr 1], .arx 30 1 (p.ps).length ((p.ps).flatMap fun b => [rwB b])] (.val (.int .i64 311)) [.mix 118 [.val (.int .u64 p.sn), .val (.int .i64 p.mn), .arr 1], .arx 30 1 (p.ps).length ((p.ps).flatMap fun b => [rwB b])] := by
 refine qA (N := 9) 2 (by kernel_rfl) Tryz.func76 rfl rfl rfl (by simp only [fr0, qbh, qbj]; exact rfl) rfl fun s0 hs0 => ?_
 refine qP rfl hs0 ?_
 refine zam 2 ?_
 refine zac ?_
 refine zal rfl (qp 2 rfl (ev1 rfl) rfl) ?_
 refine zal rfl (zan 3 rfl gB rfl) ?_
 refine zab ?_
 refine qD (l0 := [_]) rfl rfl rfl rfl rfl hs0 ?_
 refine za rfl (ki rfl en (ec (ev1 rfl) en)) ?_
 refine zab ⟨_, _, _, 4, ev1 rfl, qbE hs0 (by decide), rfl, ?_⟩
 have hs1 : s0.M.length ≤ 4 := qbE hs0 (by decide)
 refine qO rfl hs0 ?_
 refine zai ?_
 refine zaa 1 rfl ?_
 refine za rfl (qe rfl ye (ev1 rfl) rfl rfl) ?_
 refine kz rfl (qQ [0, 1] [] [] rfl (ev1 rfl) (ec (ev1 rfl) (ec (ev1 rfl) en)) rfl (by exact jW _ _ ⟨rfl, (by first | exact rfl | exact arx_fits rfl rfl (vwL_flat (fun _ => rfl) _) | exact kL rfl rfl (qw (fun _ => rfl) _) | exact qH rfl rfl (fun _ => rfl) | exact kM rfl rfl (fun _ => rfl)), trivial⟩) (XY p x hx h2 h3) rfl rfl rfl (by exact (wrc rfl (wrc (by first | exact rfl | exact kX (fun _ => rfl) | exact kD (qw (fun _ => rfl) _) | exact kE (fun _ => rfl) | exact kF (fun _ => rfl)) rfl))) rfl rfl) rfl ?_
 refine gq (qZ [3] [] rfl rfl rfl (vv _ _) rfl rfl rfl rfl rfl) ?_
 refine km [0, 1] (rs1 rfl (j4 kc rfl rfl rfl)) rfl rfl ?_ ⟨rfl, qH rfl rfl (fun _ => rfl), trivial⟩
 rfl
theorem qaR (p : PiM) (x : PcM) (hx : pcB x = true) (h2 : x.sn = p.sn) (h3 : x.mn = p.mn) (h4 : x.ix.toNat < p.ps.length) (h5 : emp p.ps[x.ix.toNat] = false) : DFun Tryz.prog 76 [.loc 0 0, .agg (pcD x)] [.mix 118 [.val (.int .u64 p.sn), .val (.int .i64 p.mn), .arr 1], .arx 30 1 (p.ps).length ((p.ps).flatMap fun b => [rwB b])] (.val (.int .i64 5)) [.mix 118 [.val (.int .u64 p.sn), .val (.int .i64 p.mn), .arr 1], .arx 30 1 (p.ps).length ((p.ps).flatMap fun b => [rwB b])] := by
 refine qA (N := 9) 2 (by kernel_rfl) Tryz.func76 rfl rfl rfl (by simp only [fr0, qbh, qbj]; exact rfl) rfl fun s0 hs0 => ?_
 refine qP rfl hs0 ?_
 refine zam 2 ?_
 refine zac ?_
 refine zal rfl (qp 2 rfl (ev1 rfl) rfl) ?_
 refine zal rfl (zan 3 rfl gB rfl) ?_
 refine zab ?_
 refine qD (l0 := [_]) rfl rfl rfl rfl rfl hs0 ?_
 refine za rfl (ki rfl en (ec (ev1 rfl) en)) ?_
 refine zab ⟨_, _, _, 4, ev1 rfl, qbE hs0 (by decide), rfl, ?_⟩
 have hs1 : s0.M.length ≤ 4 := qbE hs0 (by decide)
 refine qO rfl hs0 ?_
 refine zai ?_
 refine zaa 1 rfl ?_
 refine za rfl (qe rfl ye (ev1 rfl) rfl rfl) ?_
 refine kz rfl (qQ [0, 1] [] [] rfl (ev1 rfl) (ec (ev1 rfl) (ec (ev1 rfl) en)) rfl (by exact jW _ _ ⟨rfl, (by first | exact rfl | exact arx_fits rfl rfl (vwL_flat (fun _ => rfl) _) | exact kL rfl rfl (qw (fun _ => rfl) _) | exact qH rfl rfl (fun _ => rfl) | exact kM rfl rfl (fun _ => rfl)), trivial⟩) (XZ p x hx h2 h3 h4 h5) rfl rfl rfl (by exact (wrc rfl (wrc (by first | exact rfl | exact kX (fun _ => rfl) | exact kD (qw (fun _ => rfl) _) | exact kE (fun _ => rfl) | exact kF (fun _ => rfl)) rfl))) rfl rfl) rfl ?_
 refine gq (qZ [3] [] rfl rfl rfl (vv _ _) rfl rfl rfl rfl rfl) ?_
 refine km [0, 1] (rs1 rfl (j4 kc rfl rfl rfl)) rfl rfl ?_ ⟨rfl, qH rfl rfl (fun _ => rfl), trivial⟩
 rfl
theorem try_s (p : PiM) (x : PcM) (hx : pcB x = true) (h2 : x.sn = p.sn) (h3 : x.mn = p.mn) (h4 : x.ix.toNat < p.ps.length) (h5 : emp p.ps[x.ix.toNat] = true) : DFun Tryz.prog 76 [.loc 0 0, .agg (pcD x)] [.mix 118 [.val (.int .u64 p.sn), .val (.int .i64 p.mn), .arr 1], .arx 30 1 (p.ps).length ((p.ps).flatMap fun b => [rwB b])] (.val (.int .i64 0)) [.mix 118 [.val (.int .u64 p.sn), .val (.int .i64 p.mn), .arr 1], .arx 30 1 p.ps.length ((p.ps.set x.ix.toNat x.b).flatMap fun b => [rwB b])] := by
 refine qA (N := 9) 2 (by kernel_rfl) Tryz.func76 rfl rfl rfl (by simp only [fr0, qbh, qbj]; exact rfl) rfl fun s0 hs0 => ?_
 refine qP rfl hs0 ?_
 refine zam 2 ?_
 refine zac ?_
 refine zal rfl (qp 2 rfl (ev1 rfl) rfl) ?_
 refine zal rfl (zan 3 rfl gB rfl) ?_
 refine zab ?_
 refine qD (l0 := [_]) rfl rfl rfl rfl rfl hs0 ?_
 refine za rfl (ki rfl en (ec (ev1 rfl) en)) ?_
 refine zab ⟨_, _, _, 4, ev1 rfl, qbE hs0 (by decide), rfl, ?_⟩
 have hs1 : s0.M.length ≤ 4 := qbE hs0 (by decide)
 refine qO rfl hs0 ?_
 refine zai ?_
 refine zaa 1 rfl ?_
 refine za rfl (qe rfl ye (ev1 rfl) rfl rfl) ?_
 refine zal rfl (zak [0, 1] [] [] rfl (ev1 rfl) (ec (ev1 rfl) (ec (ev1 rfl) en)) rfl (by exact jW _ _ ⟨rfl, (by first | exact rfl | exact arx_fits rfl rfl (vwL_flat (fun _ => rfl) _) | exact kL rfl rfl (qw (fun _ => rfl) _) | exact qH rfl rfl (fun _ => rfl) | exact kM rfl rfl (fun _ => rfl)), trivial⟩) (Au p x hx h2 h3 h4 h5) rfl rfl rfl (by exact (wrc rfl (wrc (by first | exact rfl | exact kX (fun _ => rfl) | exact kD (qw (fun _ => rfl) _) | exact kE (fun _ => rfl) | exact kF (fun _ => rfl)) rfl))) rfl rfl) ?_
 refine zab ?_
 refine zai ?_
 refine zaq rfl (qN rfl kc (ev1 rfl) (ev1 rfl) rfl) ?_
 refine zab ?_
 refine zau ?_
 refine gq (kU [3] [] rfl rfl (J0 _) rfl rfl rfl rfl rfl) ?_
 refine km [0, 1] (rs1 rfl (j4 kc rfl rfl rfl)) rfl rfl ?_ ⟨rfl, qH rfl rfl (fun _ => rfl), trivial⟩
 rfl
theorem try_n (p : PiM) (x : PcM) (hx : pcB x = true) (h2 : p.sn < x.sn) : DFun Tryz.prog 76 [.loc 0 0, .agg (pcD x)] [.mix 118 [.val (.int .u64 p.sn), .val (.int .i64 p.mn), .arr 1], .arx 30 1 (p.ps).length ((p.ps).flatMap fun b => [rwB b])] (.val (.int .i64 0)) [.mix 118 [.val (.int .u64 x.sn), .val (.int .i64 x.mn), .arr 2], .arx 30 1 (p.ps).length ((p.ps).flatMap fun b => [rwB b]), .arx 30 1 x.mn.toNat (((qbs x.mn.toNat ([] : List Int)).set x.ix.toNat x.b).flatMap fun b => [rwB b])] := by
 refine qA (N := 9) 2 (by kernel_rfl) Tryz.func76 rfl rfl rfl (by simp only [fr0, qbh, qbj]; exact rfl) rfl fun s0 hs0 => ?_
 refine qP rfl hs0 ?_
 refine zam 2 ?_
 refine zac ?_
 refine zal rfl (qp 2 rfl (ev1 rfl) rfl) ?_
 refine zal rfl (zan 3 rfl gB rfl) ?_
 refine zab ?_
 refine qD (l0 := [_]) rfl rfl rfl rfl rfl hs0 ?_
 refine za rfl (ki rfl en (ec (ev1 rfl) en)) ?_
 refine zab ⟨_, _, _, 4, ev1 rfl, qbE hs0 (by decide), rfl, ?_⟩
 have hs1 : s0.M.length ≤ 4 := qbE hs0 (by decide)
 refine qO rfl hs0 ?_
 refine zad ?_
 refine zam 1 ?_
 refine zac ?_
 refine zaa 1 rfl ?_
 refine za rfl (qe rfl ye (ev1 rfl) rfl rfl) ?_
 refine zal rfl (zak [0, 1] [] [4] rfl (ev1 rfl) (ec (ev1 rfl) (ec (ev1 rfl) en)) rfl (by exact jW _ _ ⟨rfl, (by first | exact rfl | exact arx_fits rfl rfl (vwL_flat (fun _ => rfl) _) | exact kL rfl rfl (qw (fun _ => rfl) _) | exact qH rfl rfl (fun _ => rfl) | exact kM rfl rfl (fun _ => rfl)), trivial⟩) (Av p x hx h2) rfl rfl rfl (by exact (wrc rfl (wrc (by first | exact rfl | exact kX (fun _ => rfl) | exact kD (qw (fun _ => rfl) _) | exact kE (fun _ => rfl) | exact kF (fun _ => rfl)) (wrc (by first | exact rfl | exact kX (fun _ => rfl) | exact kD (qw (fun _ => rfl) _) | exact kE (fun _ => rfl) | exact kF (fun _ => rfl)) rfl)))) rfl rfl) ?_
 refine zab ?_
 refine zai ?_
 refine zaq rfl (qN rfl kc (ev1 rfl) (ev1 rfl) rfl) ?_
 refine zab ?_
 refine zau ?_
 refine gq (kU [3] [] rfl rfl (J0 _) rfl rfl rfl rfl rfl) ?_
 refine km [0, 1, 4] (rs1 rfl (j4 kc rfl rfl rfl)) rfl rfl ?_ ⟨rfl, qH rfl rfl (fun _ => rfl), qH rfl rfl (fun _ => rfl), trivial⟩
 rfl
end Go.Proofs.YtofklkbfkoliiaaGreat
namespace Go.Proofs.YtofklkbfkoliiaaGreat
set_option linter.unusedVariables false
set_option linter.unusedSimpArgs false
open Go.RowKit
theorem yH (b : Bool) {n : Int} (hn : n ≠ 0) : (wv b n != 0) = !b := by cases b <;> simp [wv, hn]
theorem K2 (b : Bool) {n : Int} (hn : n ≠ 0) : (wv b n == 0) = b := by cases b <;> simp [wv, hn]
def zPi : PiM := ⟨0, 0, []⟩
def jG (p : PiM) (x : PcM) : Int × PiM :=
 if pcB x = true then
  if x.sn < p.sn then (241, p)
  else if p.sn < x.sn then (0, ⟨x.sn, x.mn, (qbs x.mn.toNat []).set x.ix.toNat x.b⟩)
  else if x.mn ≠ p.mn then (311, p)
  else if emp (p.ps.getD x.ix.toNat []) = true then (0, { p with ps := p.ps.set x.ix.toNat x.b }) else (5, p)
 else (311, p)
theorem Qb {sn mn : Int} : ∀ {ps : List (List Int)} {k : Int}, zF sn mn ps k = true ↔ ∀ (i : Nat) (h : i < ps.length), emp ps[i] = true ∨ pcB ⟨sn, k + i, mn, ps[i]⟩ = true
 | [], k => by simp [zF]
 | b :: r, k => by
  rw [zF, qbi, qbo, Qb]
  constructor
  ·rintro ⟨h1, h2⟩ i hi
   cases i with
   | zero => simpa using h1
   | succ i =>
    have := h2 i (by simpa using hi)
    rw [show k + ((i + 1 : Nat) : Int) = k + 1 + i by omega]
    exact this
  ·intro h
   refine ⟨?_, fun i hi => ?_⟩
   ·have := h 0 (by simp)
    rw [show k + ((0 : Nat) : Int) = k by omega] at this
    exact this
   ·have := h (i + 1) (by simpa using hi)
    rw [show k + ((i + 1 : Nat) : Int) = k + 1 + i by omega] at this
    exact this
theorem cntE_zero : ∀ {ps : List (List Int)}, wZ ps = 0 ↔ ∀ (i : Nat) (h : i < ps.length), emp ps[i] = true
 | [] => by simp [wZ]
 | b :: r => by
  rw [wZ]
  constructor
  ·intro h i hi
   have hb : emp b = true := by
    cases hb : emp b with
    | true => rfl
    | false => rw [hb] at h; simp at h
   rw [if_pos hb, qbh] at h
   cases i with
   | zero => exact hb
   | succ i => exact cntE_zero.1 h i (by simpa using hi)
  ·intro h
   rw [if_pos (show emp b = true from h 0 (by simp)), qbh]
   exact cntE_zero.2 fun i hi => h (i + 1) (by simpa using hi)
theorem piOk_iff {p : PiM} : jh p = true ↔ noB p = true ∨ ((∀ (i : Nat) (h : i < p.ps.length), emp p.ps[i] = true ∨ pcB ⟨p.sn, i, p.mn, p.ps[i]⟩ = true) ∧ (∃ (i : Nat) (h : i < p.ps.length), emp p.ps[i] = false) ∧ (p.ps.length : Int) = p.mn) := by
 unfold jh
 rw [qbo, qbi, qbi, Qb, beq_iff_eq]
 have h1 : (!(((wZ p.ps : Nat) : Int) == 0)) = true ↔ ∃ (i : Nat) (h : i < p.ps.length), emp p.ps[i] = false := by
  constructor
  ·intro h
   refine Classical.byContradiction fun hn => ?_
   have h0 : wZ p.ps = 0 := cntE_zero.2 fun i hi => by
    cases he : emp p.ps[i] with
    | true => rfl
    | false => exact absurd ⟨i, hi, he⟩ hn
   rw [h0] at h
   exact absurd h (by decide)
  ·rintro ⟨i, hi, he⟩
   have h0 : wZ p.ps ≠ 0 := fun h => by
    rw [cntE_zero.1 h i hi] at he
    cases he
   simp
   exact h0
 rw [h1]
 simp only [Int.zero_add]
 constructor
 ·rintro (h | ⟨⟨h2, h3⟩, h4⟩)
  ·exact .inl h
  ·exact .inr ⟨h2, h3, h4⟩
 ·rintro (h | ⟨h2, h3, h4⟩)
  ·exact .inl h
  ·exact .inr ⟨⟨h2, h3⟩, h4⟩
theorem noB_iff {p : PiM} : noB p = true ↔ p = zPi := by
 obtain ⟨sn, mn, ps⟩ := p
 unfold noB zPi
 simp only [qbi, beq_iff_eq, PiM.mk.injEq]
 constructor
 ·rintro ⟨⟨h1, h2⟩, h3⟩
  exact ⟨h1, h2, qbH (by omega)⟩
 ·rintro ⟨h1, h2, h3⟩
  exact ⟨⟨h1, h2⟩, by rw [h3]; rfl⟩
theorem Q0 {p : PiM} (hp : jh p = true) : (p.ps.length : Int) = p.mn := by
 rcases piOk_iff.1 hp with h | ⟨_, _, h⟩
 ·rw [noB_iff.1 h]; rfl
 ·exact h
theorem pi_sn {p : PiM} (hp : jh p = true) : (p = zPi) ∨ (1 ≤ p.sn ∧ p.sn ≤ 4611686018427387904 ∧ 1 ≤ p.mn ∧ p.mn ≤ 64) := by
 rcases piOk_iff.1 hp with h | ⟨h1, ⟨i, hi, he⟩, h3⟩
 ·exact .inl (noB_iff.1 h)
 ·right
  rcases h1 i hi with h | h
  ·rw [he] at h; cases h
  ·have := pcB_iff.1 h
   dsimp only at this
   omega
theorem vl {p : PiM} (hp : jh p = true) : p.ps.length ≤ 64 ∧ ∀ b ∈ p.ps, b.length ≤ 256 := by
 have hl := Q0 hp
 rcases pi_sn hp with rfl | h
 ·exact ⟨by decide, fun b hb => by cases hb⟩
 ·refine ⟨by omega, fun b hb => ?_⟩
  obtain ⟨i, hi, rfl⟩ := List.getElem_of_mem hb
  rcases piOk_iff.1 hp with h0 | ⟨h1, _, _⟩
  ·rw [noB_iff.1 h0] at h; exact absurd h (by decide)
  ·rcases h1 i hi with he | he
   ·rw [emp_iff.1 he]; simp
   ·have := pcB_iff.1 he
    dsimp only at this
    omega
theorem Aw {x : PcM} (h : pcB x = true) : emp x.b = false := by
 have := pcB_iff.1 h
 cases he : emp x.b with
 | false => rfl
 | true =>
  rw [emp_iff.1 he] at this
  simp at this
theorem yt {p : PiM} (hp : jh p = true) (x : PcM) :
  (pcB x = true ∧ p.sn < x.sn ∧ jG p x = (0, ⟨x.sn, x.mn, (qbs x.mn.toNat []).set x.ix.toNat x.b⟩)) ∨
  (pcB x = true ∧ x.sn = p.sn ∧ x.mn = p.mn ∧ (∃ h : x.ix.toNat < p.ps.length, emp p.ps[x.ix.toNat] = true) ∧ jG p x = (0, { p with ps := p.ps.set x.ix.toNat x.b })) ∨
  (∃ e : Int, e ≠ 0 ∧ jG p x = (e, p) ∧ ((pcB x = false ∧ e = 311) ∨ (pcB x = true ∧ x.sn < p.sn ∧ e = 241) ∨ (pcB x = true ∧ x.sn = p.sn ∧ x.mn ≠ p.mn ∧ e = 311) ∨ (pcB x = true ∧ x.sn = p.sn ∧ x.mn = p.mn ∧ (∃ h : x.ix.toNat < p.ps.length, emp p.ps[x.ix.toNat] = false) ∧ e = 5))) := by
 unfold jG
 cases hx : pcB x with
 | false => exact .inr (.inr ⟨311, by decide, rfl, .inl ⟨rfl, rfl⟩⟩)
 | true =>
  rw [if_pos rfl]
  by_cases h1 : x.sn < p.sn
  ·rw [if_pos h1]
   exact .inr (.inr ⟨241, by decide, rfl, .inr (.inl ⟨rfl, h1, rfl⟩)⟩)
  rw [if_neg h1]
  by_cases h2 : p.sn < x.sn
  ·rw [if_pos h2]
   exact .inl ⟨rfl, h2, rfl⟩
  rw [if_neg h2]
  have hs : x.sn = p.sn := by omega
  by_cases h3 : x.mn ≠ p.mn
  ·rw [if_pos h3]
   exact .inr (.inr ⟨311, by decide, rfl, .inr (.inr (.inl ⟨rfl, hs, h3, rfl⟩))⟩)
  rw [if_neg h3]
  have hm : x.mn = p.mn := by simpa using h3
  have hl := Q0 hp
  have hpx := pcB_iff.1 hx
  have hi : x.ix.toNat < p.ps.length := by omega
  rw [show p.ps.getD x.ix.toNat [] = p.ps[x.ix.toNat] from by rw [qbI, qbe hi]; rfl]
  cases he : emp p.ps[x.ix.toNat] with
  | true => rw [if_pos rfl]; exact .inr (.inl ⟨rfl, hs, hm, ⟨hi, he⟩, rfl⟩)
  | false => rw [if_neg (by decide)]; exact .inr (.inr ⟨5, by decide, rfl, .inr (.inr (.inr ⟨rfl, hs, hm, ⟨hi, he⟩, rfl⟩))⟩)
theorem qaS {p q : PiM} {x : PcM} (hp : jh p = true) (h : (jG p x).2 = q) : jh q = true := by
 subst h
 rcases yt hp x with ⟨hx, h2, e⟩ | ⟨hx, h2, h3, ⟨h4, h5⟩, e⟩ | ⟨_, _, e, _⟩
 ·rw [e]
  have hpx := pcB_iff.1 hx
  refine piOk_iff.2 (.inr ⟨fun i hi => ?_, ⟨x.ix.toNat, by simp; omega, ?_⟩, by simp; omega⟩)
  ·by_cases hj : x.ix.toNat = i
   ·subst hj
    right
    simp only [List.getElem_set_self]
    rw [show ((x.ix.toNat : Nat) : Int) = x.ix by omega]
    exact hx
   ·left
    simp only [List.getElem_set_ne hj, List.getElem_replicate]
    rfl
  ·simp only [List.getElem_set_self]
   exact Aw hx
 ·rw [e]
  have hpx := pcB_iff.1 hx
  have hl := Q0 hp
  have h0 : noB p = false := by
   cases h : noB p with
   | false => rfl
   | true => rw [noB_iff.1 h] at h4; cases h4
  rcases piOk_iff.1 hp with h | ⟨g1, _, g3⟩
  ·rw [h0] at h; cases h
  refine piOk_iff.2 (.inr ⟨fun i hi => ?_, ⟨x.ix.toNat, by simpa using h4, ?_⟩, by simp; omega⟩)
  ·by_cases hj : x.ix.toNat = i
   ·subst hj
    right
    simp only [List.getElem_set_self]
    rw [show ((x.ix.toNat : Nat) : Int) = x.ix by omega, ← h2, ← h3]
    exact hx
   ·have := g1 i (by simpa using hi)
    simp only [List.getElem_set_ne hj]
    exact this
  ·simp only [List.getElem_set_self]
   exact Aw hx
 ·rw [e]; exact hp
def kB : List PcM → PiM × Nat → PiM × Nat
 | [], s => s
 | x :: r, s => kB r ((jG s.1 x).2, if (jG s.1 x).1 = 0 then s.2 else s.2 + 1)
theorem gL (l : List PcM) {k : Nat} (s : PiM × Nat) (h : k < l.length) : kB (l.take (k + 1)) s = ((jG (kB (l.take k) s).1 l[k]).2, if (jG (kB (l.take k) s).1 l[k]).1 = 0 then (kB (l.take k) s).2 else (kB (l.take k) s).2 + 1) := by
 induction l generalizing k s with
 | nil => simp at h
 | cons x r ih =>
  cases k with
  | zero => simp [kB]
  | succ k =>
   rw [List.take_succ_cons, List.take_succ_cons, kB, kB, ih _ (by simpa using h)]
   rfl
theorem K3 {p : PiM} (hp : jh p = true) : ∀ (l : List PcM) (n : Nat), jh (kB l (p, n)).1 = true ∧ (kB l (p, n)).2 ≤ n + l.length
 | [], n => ⟨hp, qby _⟩
 | x :: r, n => by
  rw [kB]
  have h1 := K3 (qaS hp (x := x) rfl) r (if (jG p x).1 = 0 then n else n + 1)
  refine ⟨h1.1, qbE h1.2 ?_⟩
  rw [qbC]
  split <;> omega
end Go.Proofs.YtofklkbfkoliiaaGreat
namespace Go.Proofs.YtofklkbfkoliiaaGreat
set_option linter.unusedVariables false
set_option linter.unusedSimpArgs false
open Go.RowKit
attribute [local irreducible] tkN k6 kw jG
theorem rw_nl (l : List (List Int)) : D.nlL (l.flatMap fun b => [rwB b]) = true := by
 induction l with
 | nil => rfl
 | cons b r ih => rw [qbB]; exact ih
theorem GT : Wk (.val (.agg #[.int .u64 0, .int .i64 0, .slice none 0 0])) (.agg (piD zPi)) := (Wk.vagg _).trans (Wk.agg (.cons (.refl _) (.cons (.refl _) (.cons (Wk.slm0 1) .nil))))
theorem wk_pe (e : Int) : Wk (.tup [.val (.agg #[.int .u64 0, .int .i64 0, .slice none 0 0]), .val (.int .i64 e)]) (.tup [.agg (piD zPi), .val (.int .i64 e)]) := Wk.tup (.cons GT (.cons (.refl _) .nil))
theorem GU {T : TypeId} {u v : Value} {n : Nat} {l : List (List Int)} : vw [] jU [.arx T 1 n (l.flatMap fun b => [rwB b])] (.agg [.val u, .val v, .arr 0]) = some (.agg [.val u, .val v, .slm 1 n (l.flatMap fun b => [rwB b])]) := by
 have h := ZO (σ := []) (V := jU) (M := [.arx T 1 n (l.flatMap fun b => [rwB b])]) (i := 0) rfl rfl rfl (rw_nl l)
 have h2 := ul (σ := []) (V := jU) (M := [.arx T 1 n (l.flatMap fun b => [rwB b])]) (d := .val u) rfl (ul (d := .val v) rfl (ul h (show vwL [] jU _ [] = some [] from rfl)))
 unfold vw
 rw [h2]
 rfl
theorem HB (p : PiM) (hn : p.ps.length ≤ 5000) (hb : ∀ b ∈ p.ps, b.length ≤ 100000) (hp : jh p = true) (x : PcM) (hx : pcB x = false) : DFun Tryz.prog 30 [.agg (piD p), .agg (pcD x)] [] (.tup [.val (.agg #[.int .u64 0, .int .i64 0, .slice none 0 0]), .val (.int .i64 311)]) [] := by
 refine qA (N := 17) 0 (by kernel_rfl) Tryz.func30 rfl rfl rfl (by simp only [fr0, qbh, qbj]; exact rfl) rfl fun s0 hs0 => ?_
 refine qP rfl hs0 ?_
 refine zam 4 ?_
 refine zac ?_
 refine zal rfl (qp 0 rfl (ev1 rfl) rfl) ?_
 refine zal rfl (qp 1 rfl (ev1 rfl) rfl) ?_
 refine zal rfl (zan 2 rfl uw rfl) ?_
 refine zal rfl (zan 3 rfl gB rfl) ?_
 refine zab ?_
 refine qD (l0 := [_]) rfl rfl rfl rfl rfl hs0 ?_
 refine za rfl (ki rfl en (ec (ev1 rfl) en)) ?_
 refine zab ⟨_, _, _, 4, ev1 rfl, qbE hs0 (by decide), rfl, ?_⟩
 have hs1 : s0.M.length ≤ 4 := qbE hs0 (by decide)
 refine qO rfl hs0 ?_
 refine zad ?_
 refine zam 2 ?_
 refine zac ?_
 refine za rfl (qe rfl jp (ev1 rfl) rfl rfl) ?_
 refine zal rfl (zak [] [] [4, 5] rfl (ev1 rfl) (ec (ev1 rfl) en) rfl rfl (u6 p hn hb hp) rfl rfl rfl (by exact (wrc rfl (wrc (by first | exact rfl | exact kX (fun _ => rfl) | exact kD (qw (fun _ => rfl) _) | exact kE (fun _ => rfl) | exact kF (fun _ => rfl)) rfl))) rfl rfl) ?_
 refine zaa 1 rfl ?_
 refine zab ?_
 refine zai ?_
 refine zaa 1 rfl ?_
 refine za rfl (qe rfl ye (ev1 rfl) rfl rfl) ?_
 refine kz rfl (qQ [4, 5] [] [] rfl (ev1 rfl) (ec (ev1 rfl) (ec (ev1 rfl) en)) rfl (by exact jW _ _ ⟨rfl, (by first | exact rfl | exact arx_fits rfl rfl (vwL_flat (fun _ => rfl) _) | exact kL rfl rfl (qw (fun _ => rfl) _) | exact qH rfl rfl (fun _ => rfl) | exact kM rfl rfl (fun _ => rfl)), trivial⟩) (XW p x hx) rfl rfl rfl (by exact (wrc rfl (wrc (by first | exact rfl | exact kX (fun _ => rfl) | exact kD (qw (fun _ => rfl) _) | exact kE (fun _ => rfl) | exact kF (fun _ => rfl)) rfl))) rfl rfl) rfl ?_
 refine gq (qZ [3] [] rfl rfl rfl (yT _ _) rfl rfl rfl rfl rfl) ?_
 refine qo (rs2 rfl (gy jp rfl rfl rfl) (j4 kc rfl rfl rfl)) rfl ?_
 rfl
theorem HC (p : PiM) (hn : p.ps.length ≤ 5000) (hb : ∀ b ∈ p.ps, b.length ≤ 100000) (hp : jh p = true) (x : PcM) (hx : pcB x = true) (h2 : x.sn < p.sn) : DFun Tryz.prog 30 [.agg (piD p), .agg (pcD x)] [] (.tup [.val (.agg #[.int .u64 0, .int .i64 0, .slice none 0 0]), .val (.int .i64 241)]) [] := by
 refine qA (N := 17) 0 (by kernel_rfl) Tryz.func30 rfl rfl rfl (by simp only [fr0, qbh, qbj]; exact rfl) rfl fun s0 hs0 => ?_
 refine qP rfl hs0 ?_
 refine zam 4 ?_
 refine zac ?_
 refine zal rfl (qp 0 rfl (ev1 rfl) rfl) ?_
 refine zal rfl (qp 1 rfl (ev1 rfl) rfl) ?_
 refine zal rfl (zan 2 rfl uw rfl) ?_
 refine zal rfl (zan 3 rfl gB rfl) ?_
 refine zab ?_
 refine qD (l0 := [_]) rfl rfl rfl rfl rfl hs0 ?_
 refine za rfl (ki rfl en (ec (ev1 rfl) en)) ?_
 refine zab ⟨_, _, _, 4, ev1 rfl, qbE hs0 (by decide), rfl, ?_⟩
 have hs1 : s0.M.length ≤ 4 := qbE hs0 (by decide)
 refine qO rfl hs0 ?_
 refine zad ?_
 refine zam 2 ?_
 refine zac ?_
 refine za rfl (qe rfl jp (ev1 rfl) rfl rfl) ?_
 refine zal rfl (zak [] [] [4, 5] rfl (ev1 rfl) (ec (ev1 rfl) en) rfl rfl (u6 p hn hb hp) rfl rfl rfl (by exact (wrc rfl (wrc (by first | exact rfl | exact kX (fun _ => rfl) | exact kD (qw (fun _ => rfl) _) | exact kE (fun _ => rfl) | exact kF (fun _ => rfl)) rfl))) rfl rfl) ?_
 refine zaa 1 rfl ?_
 refine zab ?_
 refine zai ?_
 refine zaa 1 rfl ?_
 refine za rfl (qe rfl ye (ev1 rfl) rfl rfl) ?_
 refine kz rfl (qQ [4, 5] [] [] rfl (ev1 rfl) (ec (ev1 rfl) (ec (ev1 rfl) en)) rfl (by exact jW _ _ ⟨rfl, (by first | exact rfl | exact arx_fits rfl rfl (vwL_flat (fun _ => rfl) _) | exact kL rfl rfl (qw (fun _ => rfl) _) | exact qH rfl rfl (fun _ => rfl) | exact kM rfl rfl (fun _ => rfl)), trivial⟩) (XX p x hx h2) rfl rfl rfl (by exact (wrc rfl (wrc (by first | exact rfl | exact kX (fun _ => rfl) | exact kD (qw (fun _ => rfl) _) | exact kE (fun _ => rfl) | exact kF (fun _ => rfl)) rfl))) rfl rfl) rfl ?_
 refine gq (qZ [3] [] rfl rfl rfl (yT _ _) rfl rfl rfl rfl rfl) ?_
 refine qo (rs2 rfl (gy jp rfl rfl rfl) (j4 kc rfl rfl rfl)) rfl ?_
 rfl
theorem HD (p : PiM) (hn : p.ps.length ≤ 5000) (hb : ∀ b ∈ p.ps, b.length ≤ 100000) (hp : jh p = true) (x : PcM) (hx : pcB x = true) (h2 : x.sn = p.sn) (h3 : x.mn ≠ p.mn) : DFun Tryz.prog 30 [.agg (piD p), .agg (pcD x)] [] (.tup [.val (.agg #[.int .u64 0, .int .i64 0, .slice none 0 0]), .val (.int .i64 311)]) [] := by
 refine qA (N := 17) 0 (by kernel_rfl) Tryz.func30 rfl rfl rfl (by simp only [fr0, qbh, qbj]; exact rfl) rfl fun s0 hs0 => ?_
 refine qP rfl hs0 ?_
 refine zam 4 ?_
 refine zac ?_
 refine zal rfl (qp 0 rfl (ev1 rfl) rfl) ?_
 refine zal rfl (qp 1 rfl (ev1 rfl) rfl) ?_
 refine zal rfl (zan 2 rfl uw rfl) ?_
 refine zal rfl (zan 3 rfl gB rfl) ?_
 refine zab ?_
 refine qD (l0 := [_]) rfl rfl rfl rfl rfl hs0 ?_
 refine za rfl (ki rfl en (ec (ev1 rfl) en)) ?_
 refine zab ⟨_, _, _, 4, ev1 rfl, qbE hs0 (by decide), rfl, ?_⟩
 have hs1 : s0.M.length ≤ 4 := qbE hs0 (by decide)
 refine qO rfl hs0 ?_
 refine zad ?_
 refine zam 2 ?_
 refine zac ?_
 refine za rfl (qe rfl jp (ev1 rfl) rfl rfl) ?_
 refine zal rfl (zak [] [] [4, 5] rfl (ev1 rfl) (ec (ev1 rfl) en) rfl rfl (u6 p hn hb hp) rfl rfl rfl (by exact (wrc rfl (wrc (by first | exact rfl | exact kX (fun _ => rfl) | exact kD (qw (fun _ => rfl) _) | exact kE (fun _ => rfl) | exact kF (fun _ => rfl)) rfl))) rfl rfl) ?_
 refine zaa 1 rfl ?_
 refine zab ?_
 refine zai ?_
 refine zaa 1 rfl ?_
 refine za rfl (qe rfl ye (ev1 rfl) rfl rfl) ?_
 refine kz rfl (qQ [4, 5] [] [] rfl (ev1 rfl) (ec (ev1 rfl) (ec (ev1 rfl) en)) rfl (by exact jW _ _ ⟨rfl, (by first | exact rfl | exact arx_fits rfl rfl (vwL_flat (fun _ => rfl) _) | exact kL rfl rfl (qw (fun _ => rfl) _) | exact qH rfl rfl (fun _ => rfl) | exact kM rfl rfl (fun _ => rfl)), trivial⟩) (XY p x hx h2 h3) rfl rfl rfl (by exact (wrc rfl (wrc (by first | exact rfl | exact kX (fun _ => rfl) | exact kD (qw (fun _ => rfl) _) | exact kE (fun _ => rfl) | exact kF (fun _ => rfl)) rfl))) rfl rfl) rfl ?_
 refine gq (qZ [3] [] rfl rfl rfl (yT _ _) rfl rfl rfl rfl rfl) ?_
 refine qo (rs2 rfl (gy jp rfl rfl rfl) (j4 kc rfl rfl rfl)) rfl ?_
 rfl
theorem HE (p : PiM) (hn : p.ps.length ≤ 5000) (hb : ∀ b ∈ p.ps, b.length ≤ 100000) (hp : jh p = true) (x : PcM) (hx : pcB x = true) (h2 : x.sn = p.sn) (h3 : x.mn = p.mn) (h4 : x.ix.toNat < p.ps.length) (h5 : emp p.ps[x.ix.toNat] = false) : DFun Tryz.prog 30 [.agg (piD p), .agg (pcD x)] [] (.tup [.val (.agg #[.int .u64 0, .int .i64 0, .slice none 0 0]), .val (.int .i64 5)]) [] := by
 refine qA (N := 17) 0 (by kernel_rfl) Tryz.func30 rfl rfl rfl (by simp only [fr0, qbh, qbj]; exact rfl) rfl fun s0 hs0 => ?_
 refine qP rfl hs0 ?_
 refine zam 4 ?_
 refine zac ?_
 refine zal rfl (qp 0 rfl (ev1 rfl) rfl) ?_
 refine zal rfl (qp 1 rfl (ev1 rfl) rfl) ?_
 refine zal rfl (zan 2 rfl uw rfl) ?_
 refine zal rfl (zan 3 rfl gB rfl) ?_
 refine zab ?_
 refine qD (l0 := [_]) rfl rfl rfl rfl rfl hs0 ?_
 refine za rfl (ki rfl en (ec (ev1 rfl) en)) ?_
 refine zab ⟨_, _, _, 4, ev1 rfl, qbE hs0 (by decide), rfl, ?_⟩
 have hs1 : s0.M.length ≤ 4 := qbE hs0 (by decide)
 refine qO rfl hs0 ?_
 refine zad ?_
 refine zam 2 ?_
 refine zac ?_
 refine za rfl (qe rfl jp (ev1 rfl) rfl rfl) ?_
 refine zal rfl (zak [] [] [4, 5] rfl (ev1 rfl) (ec (ev1 rfl) en) rfl rfl (u6 p hn hb hp) rfl rfl rfl (by exact (wrc rfl (wrc (by first | exact rfl | exact kX (fun _ => rfl) | exact kD (qw (fun _ => rfl) _) | exact kE (fun _ => rfl) | exact kF (fun _ => rfl)) rfl))) rfl rfl) ?_
 refine zaa 1 rfl ?_
 refine zab ?_
 refine zai ?_
 refine zaa 1 rfl ?_
 refine za rfl (qe rfl ye (ev1 rfl) rfl rfl) ?_
 refine kz rfl (qQ [4, 5] [] [] rfl (ev1 rfl) (ec (ev1 rfl) (ec (ev1 rfl) en)) rfl (by exact jW _ _ ⟨rfl, (by first | exact rfl | exact arx_fits rfl rfl (vwL_flat (fun _ => rfl) _) | exact kL rfl rfl (qw (fun _ => rfl) _) | exact qH rfl rfl (fun _ => rfl) | exact kM rfl rfl (fun _ => rfl)), trivial⟩) (XZ p x hx h2 h3 h4 h5) rfl rfl rfl (by exact (wrc rfl (wrc (by first | exact rfl | exact kX (fun _ => rfl) | exact kD (qw (fun _ => rfl) _) | exact kE (fun _ => rfl) | exact kF (fun _ => rfl)) rfl))) rfl rfl) rfl ?_
 refine gq (qZ [3] [] rfl rfl rfl (yT _ _) rfl rfl rfl rfl rfl) ?_
 refine qo (rs2 rfl (gy jp rfl rfl rfl) (j4 kc rfl rfl rfl)) rfl ?_
 rfl
theorem HF (p : PiM) (hn : p.ps.length ≤ 5000) (hb : ∀ b ∈ p.ps, b.length ≤ 100000) (hp : jh p = true) (x : PcM) (hx : pcB x = true) (h2 : x.sn = p.sn) (h3 : x.mn = p.mn) (h4 : x.ix.toNat < p.ps.length) (h5 : emp p.ps[x.ix.toNat] = true) : DFun Tryz.prog 30 [.agg (piD p), .agg (pcD x)] [] (.tup [.agg [.val (.int .u64 p.sn), .val (.int .i64 p.mn), .arr 0], .val (.int .i64 0)]) [.arx 30 1 p.ps.length ((p.ps.set x.ix.toNat x.b).flatMap fun b => [rwB b])] := by
 refine qA (N := 17) 0 (by kernel_rfl) Tryz.func30 rfl rfl rfl (by simp only [fr0, qbh, qbj]; exact rfl) rfl fun s0 hs0 => ?_
 refine qP rfl hs0 ?_
 refine zam 4 ?_
 refine zac ?_
 refine zal rfl (qp 0 rfl (ev1 rfl) rfl) ?_
 refine zal rfl (qp 1 rfl (ev1 rfl) rfl) ?_
 refine zal rfl (zan 2 rfl uw rfl) ?_
 refine zal rfl (zan 3 rfl gB rfl) ?_
 refine zab ?_
 refine qD (l0 := [_]) rfl rfl rfl rfl rfl hs0 ?_
 refine za rfl (ki rfl en (ec (ev1 rfl) en)) ?_
 refine zab ⟨_, _, _, 4, ev1 rfl, qbE hs0 (by decide), rfl, ?_⟩
 have hs1 : s0.M.length ≤ 4 := qbE hs0 (by decide)
 refine qO rfl hs0 ?_
 refine zad ?_
 refine zam 2 ?_
 refine zac ?_
 refine za rfl (qe rfl jp (ev1 rfl) rfl rfl) ?_
 refine zal rfl (zak [] [] [4, 5] rfl (ev1 rfl) (ec (ev1 rfl) en) rfl rfl (u6 p hn hb hp) rfl rfl rfl (by exact (wrc rfl (wrc (by first | exact rfl | exact kX (fun _ => rfl) | exact kD (qw (fun _ => rfl) _) | exact kE (fun _ => rfl) | exact kF (fun _ => rfl)) rfl))) rfl rfl) ?_
 refine zaa 1 rfl ?_
 refine zab ?_
 refine zai ?_
 refine zaa 1 rfl ?_
 refine za rfl (qe rfl ye (ev1 rfl) rfl rfl) ?_
 refine zal rfl (zak [4, 5] [] [] rfl (ev1 rfl) (ec (ev1 rfl) (ec (ev1 rfl) en)) rfl (by exact jW _ _ ⟨rfl, (by first | exact rfl | exact arx_fits rfl rfl (vwL_flat (fun _ => rfl) _) | exact kL rfl rfl (qw (fun _ => rfl) _) | exact qH rfl rfl (fun _ => rfl) | exact kM rfl rfl (fun _ => rfl)), trivial⟩) (Au p x hx h2 h3 h4 h5) rfl rfl rfl (by exact (wrc rfl (wrc (by first | exact rfl | exact kX (fun _ => rfl) | exact kD (qw (fun _ => rfl) _) | exact kE (fun _ => rfl) | exact kF (fun _ => rfl)) rfl))) rfl rfl) ?_
 refine zab ?_
 refine zai ?_
 refine zaa 1 rfl ?_
 refine za rfl (qC rfl (ev1 rfl) (fun s v h => by cases h; exact ⟨_, rfl⟩)) ?_
 refine za rfl (zas rfl kZ (ev1 rfl)) ?_
 refine za rfl (qe rfl jp (ev1 rfl) rfl rfl) ?_
 refine zaq rfl (ka rfl jp (ev1 rfl) (ev1 rfl) rfl rfl rfl rfl) ?_
 refine zaq rfl (qN rfl kc (ev1 rfl) (ev1 rfl) rfl) ?_
 refine zab ?_
 refine zau ?_
 refine gq (kU [3] [] rfl rfl (K0 _) rfl rfl rfl rfl rfl) ?_
 refine km [5] (rs2 rfl (vQ jp rfl rfl rfl) (j4 kc rfl rfl rfl)) rfl rfl ?_ ⟨?_, trivial⟩
 rfl
 exact qH rfl rfl (fun _ => rfl)
theorem HG (p : PiM) (hn : p.ps.length ≤ 5000) (hb : ∀ b ∈ p.ps, b.length ≤ 100000) (hp : jh p = true) (x : PcM) (hx : pcB x = true) (h2 : p.sn < x.sn) : DFun Tryz.prog 30 [.agg (piD p), .agg (pcD x)] [] (.tup [.agg [.val (.int .u64 x.sn), .val (.int .i64 x.mn), .arr 0], .val (.int .i64 0)]) [.arx 30 1 x.mn.toNat (((qbs x.mn.toNat ([] : List Int)).set x.ix.toNat x.b).flatMap fun b => [rwB b])] := by
 refine qA (N := 17) 0 (by kernel_rfl) Tryz.func30 rfl rfl rfl (by simp only [fr0, qbh, qbj]; exact rfl) rfl fun s0 hs0 => ?_
 refine qP rfl hs0 ?_
 refine zam 4 ?_
 refine zac ?_
 refine zal rfl (qp 0 rfl (ev1 rfl) rfl) ?_
 refine zal rfl (qp 1 rfl (ev1 rfl) rfl) ?_
 refine zal rfl (zan 2 rfl uw rfl) ?_
 refine zal rfl (zan 3 rfl gB rfl) ?_
 refine zab ?_
 refine qD (l0 := [_]) rfl rfl rfl rfl rfl hs0 ?_
 refine za rfl (ki rfl en (ec (ev1 rfl) en)) ?_
 refine zab ⟨_, _, _, 4, ev1 rfl, qbE hs0 (by decide), rfl, ?_⟩
 have hs1 : s0.M.length ≤ 4 := qbE hs0 (by decide)
 refine qO rfl hs0 ?_
 refine zad ?_
 refine zam 2 ?_
 refine zac ?_
 refine za rfl (qe rfl jp (ev1 rfl) rfl rfl) ?_
 refine zal rfl (zak [] [] [4, 5] rfl (ev1 rfl) (ec (ev1 rfl) en) rfl rfl (u6 p hn hb hp) rfl rfl rfl (by exact (wrc rfl (wrc (by first | exact rfl | exact kX (fun _ => rfl) | exact kD (qw (fun _ => rfl) _) | exact kE (fun _ => rfl) | exact kF (fun _ => rfl)) rfl))) rfl rfl) ?_
 refine zaa 1 rfl ?_
 refine zab ?_
 refine zad ?_
 refine zam 1 ?_
 refine zac ?_
 refine zaa 1 rfl ?_
 refine za rfl (qe rfl ye (ev1 rfl) rfl rfl) ?_
 refine zal rfl (zak [4, 5] [] [6] rfl (ev1 rfl) (ec (ev1 rfl) (ec (ev1 rfl) en)) rfl (by exact jW _ _ ⟨rfl, (by first | exact rfl | exact arx_fits rfl rfl (vwL_flat (fun _ => rfl) _) | exact kL rfl rfl (qw (fun _ => rfl) _) | exact qH rfl rfl (fun _ => rfl) | exact kM rfl rfl (fun _ => rfl)), trivial⟩) (Av p x hx h2) rfl rfl rfl (by exact (wrc rfl (wrc (by first | exact rfl | exact kX (fun _ => rfl) | exact kD (qw (fun _ => rfl) _) | exact kE (fun _ => rfl) | exact kF (fun _ => rfl)) (wrc (by first | exact rfl | exact kX (fun _ => rfl) | exact kD (qw (fun _ => rfl) _) | exact kE (fun _ => rfl) | exact kF (fun _ => rfl)) rfl)))) rfl rfl) ?_
 refine zab ?_
 refine zai ?_
 refine zaa 1 rfl ?_
 refine za rfl (qC rfl (ev1 rfl) (fun s v h => by cases h; exact ⟨_, rfl⟩)) ?_
 refine za rfl (zas rfl kZ (ev1 rfl)) ?_
 refine za rfl (qe rfl jp (ev1 rfl) rfl rfl) ?_
 refine zaq rfl (ka rfl jp (ev1 rfl) (ev1 rfl) rfl rfl rfl rfl) ?_
 refine zaq rfl (qN rfl kc (ev1 rfl) (ev1 rfl) rfl) ?_
 refine zab ?_
 refine zau ?_
 refine gq (kU [3] [] rfl rfl (K0 _) rfl rfl rfl rfl rfl) ?_
 refine km [6] (rs2 rfl (vQ jp rfl rfl rfl) (j4 kc rfl rfl rfl)) rfl rfl ?_ ⟨?_, trivial⟩
 rfl
 exact qH rfl rfl (fun _ => rfl)
theorem try_e (p : PiM) (x : PcM) (hp : jh p = true) (e : Int) (he : e ≠ 0) (h : jG p x = (e, p)) : DFun Tryz.prog 76 [.loc 0 0, .agg (pcD x)] [.mix 118 [.val (.int .u64 p.sn), .val (.int .i64 p.mn), .arr 1], .arx 30 1 (p.ps).length ((p.ps).flatMap fun b => [rwB b])] (.val (.int .i64 e)) [.mix 118 [.val (.int .u64 p.sn), .val (.int .i64 p.mn), .arr 1], .arx 30 1 (p.ps).length ((p.ps).flatMap fun b => [rwB b])] := by
 rcases yt hp x with ⟨_, _, h1⟩ | ⟨_, _, _, _, h1⟩ | ⟨e1, _, h1, g⟩
 ·rw [h1] at h; exact absurd (congrArg Prod.fst h).symm he
 ·rw [h1] at h; exact absurd (congrArg Prod.fst h).symm he
 ·obtain rfl : e1 = e := by rw [h1] at h; exact congrArg Prod.fst h
  rcases g with ⟨a, rfl⟩ | ⟨a, b, rfl⟩ | ⟨a, b, c, rfl⟩ | ⟨a, b, c, ⟨d, f⟩, rfl⟩
  ·exact qaO p x a
  ·exact qaP p x a b
  ·exact qaQ p x a b c
  ·exact qaR p x a b c d f
theorem HH (p : PiM) (hn : p.ps.length ≤ 5000) (hb : ∀ b ∈ p.ps, b.length ≤ 100000) (hp : jh p = true) (x : PcM) (e : Int) (he : e ≠ 0) (h : (jG p x).1 = e) : DFun Tryz.prog 30 [.agg (piD p), .agg (pcD x)] [] (.tup [.agg (piD zPi), .val (.int .i64 e)]) [] := by
 refine DFun.wk ?_ (wk_pe e)
 rcases yt hp x with ⟨_, _, h1⟩ | ⟨_, _, _, _, h1⟩ | ⟨e1, _, h1, g⟩
 ·rw [h1] at h; exact absurd h.symm he
 ·rw [h1] at h; exact absurd h.symm he
 ·obtain rfl : e1 = e := by rw [h1] at h; exact h
  rcases g with ⟨a, rfl⟩ | ⟨a, b, rfl⟩ | ⟨a, b, c, rfl⟩ | ⟨a, b, c, ⟨d, f⟩, rfl⟩
  ·exact HB p hn hb hp x a
  ·exact HC p hn hb hp x a b
  ·exact HD p hn hb hp x a b c
  ·exact HE p hn hb hp x a b c d f
theorem HI (p : PiM) (hn : p.ps.length ≤ 5000) (hb : ∀ b ∈ p.ps, b.length ≤ 100000) (hp : jh p = true) (x : PcM) (h : (jG p x).1 = 0) : DFun Tryz.prog 30 [.agg (piD p), .agg (pcD x)] [] (.tup [.agg (piD (jG p x).2), .val (.int .i64 0)]) [] := by
 rcases yt hp x with ⟨a, b, h1⟩ | ⟨a, b, c, ⟨d, f⟩, h1⟩ | ⟨e1, he, h1, _⟩
 ·have hq := gz (HG p hn hb hp x a b) (UJ GU)
  rw [h1]
  have hl : (qbs x.mn.toNat ([] : List Int)).length = x.mn.toNat := qbv
  unfold piD
  dsimp only
  rw [List.length_set, hl]
  exact hq
 ·have hq := gz (HF p hn hb hp x a b c d f) (UJ GU)
  rw [h1]
  unfold piD
  dsimp only
  rw [List.length_set]
  exact hq
 ·rw [h1] at h; exact absurd h he
theorem HJ {p : PiM} (hp : jh p = true) (x : PcM) (h0 : (jG p x).1 = 0) (h : p.sn < x.sn) : pcB x = true ∧ (jG p x).2 = ⟨x.sn, x.mn, (qbs x.mn.toNat []).set x.ix.toNat x.b⟩ := by
 rcases yt hp x with ⟨a, _, h1⟩ | ⟨_, b, _, _, _⟩ | ⟨e1, he, h1, _⟩
 ·exact ⟨a, by rw [h1]⟩
 ·omega
 ·rw [h1] at h0; exact absurd h0 he
theorem X0 {p : PiM} (hp : jh p = true) (x : PcM) (h0 : (jG p x).1 = 0) (h : ¬ p.sn < x.sn) : pcB x = true ∧ x.sn = p.sn ∧ x.mn = p.mn ∧ (∃ h : x.ix.toNat < p.ps.length, emp p.ps[x.ix.toNat] = true) ∧ (jG p x).2 = { p with ps := p.ps.set x.ix.toNat x.b } := by
 rcases yt hp x with ⟨_, b, _⟩ | ⟨a, b, c, d, h1⟩ | ⟨e1, he, h1, _⟩
 ·omega
 ·exact ⟨a, b, c, d, by rw [h1]⟩
 ·rw [h1] at h0; exact absurd h0 he
theorem HK {p : PiM} (hp : jh p = true) (x : PcM) (h0 : ¬ (jG p x).1 = 0) : jG p x = ((jG p x).1, p) := by
 rcases yt hp x with ⟨_, _, h1⟩ | ⟨_, _, _, _, h1⟩ | ⟨e1, he, h1, _⟩
 ·rw [h1] at h0; exact absurd rfl h0
 ·rw [h1] at h0; exact absurd rfl h0
 ·rw [h1]
end Go.Proofs.YtofklkbfkoliiaaGreat
namespace Go.Proofs.YtofklkbfkoliiaaGreat
set_option linter.unusedVariables false
set_option linter.unusedSimpArgs false
open Go.RowKit
attribute [local irreducible] tkN k6 kw jG jh
theorem Ji : slE Tryz.prog 48 = some (53, 4, 48) := by kernel_rfl
theorem HL (p : PiM) (hn : p.ps.length ≤ 5000) (hb : ∀ b ∈ p.ps, b.length ≤ 100000) (hp : jh p = true) (l : List PcM) (hl : l.length ≤ 100000) : DFun Tryz.prog 37 [.agg (piD p), .slm 4 l.length (l.flatMap pcD)] [] (.tup [.agg [.val (.int .u64 (kB l (p, 0)).1.sn), .val (.int .i64 (kB l (p, 0)).1.mn), .arr 0], .val (.int .i64 ((kB l (p, 0)).2 : Nat)), .val (.int .i64 0)]) [.arx 30 1 ((kB l (p, 0)).1.ps).length (((kB l (p, 0)).1.ps).flatMap fun b => [rwB b])] := by
 refine qA (N := 34) 0 (by kernel_rfl) Tryz.func37 rfl rfl rfl (by simp only [fr0, qbh, qbj]; exact rfl) rfl fun s0 hs0 => ?_
 refine qP rfl hs0 ?_
 refine zam 3 ?_
 refine zac ?_
 refine zal rfl (qp 0 rfl (ev1 rfl) rfl) ?_
 refine zal rfl (zan 1 rfl uw rfl) ?_
 refine zaa 1 rfl ?_
 refine zal rfl (zan 2 rfl gB rfl) ?_
 refine zab ?_
 refine qD (l0 := [_]) rfl rfl rfl rfl rfl hs0 ?_
 refine za rfl (ki rfl en (ec (ev1 rfl) en)) ?_
 refine zab ⟨_, _, _, 3, ev1 rfl, qbE hs0 (by decide), rfl, ?_⟩
 have hs1 : s0.M.length ≤ 3 := qbE hs0 (by decide)
 refine qO rfl hs0 ?_
 refine zad ?_
 refine zam 2 ?_
 refine zac ?_
 refine za rfl (qe rfl jp (ev1 rfl) rfl rfl) ?_
 refine zal rfl (zak [] [] [3, 4] rfl (ev1 rfl) (ec (ev1 rfl) en) rfl rfl (u6 p hn hb hp) rfl rfl rfl (by exact (wrc rfl (wrc (by first | exact rfl | exact kX (fun _ => rfl) | exact kD (qw (fun _ => rfl) _) | exact kE (fun _ => rfl) | exact kF (fun _ => rfl)) rfl))) rfl rfl) ?_
 refine zaa 1 rfl ?_
 refine zab ?_
 refine zai ?_
 refine zaa 1 rfl ?_
 refine za rfl (ki rfl (ec (ev1 rfl) en) en) ?_
 refine zaa 1 rfl ?_
 refine zab ?_
 refine zad ?_
 refine zai ?_
 refine zaa 1 rfl ?_
 refine za rfl (gG rfl Ji (ev1 rfl)) ?_
 refine zaa 1 rfl ?_
 refine zab ?_
 refine zav ?_
 refine qE ⟨hs1, rfl⟩ (α := Nat) (fun k => [(5, .val (.int .i64 ((kB (l.take k) (p, 0)).2 : Nat))), (18, .val (.int .i64 (k : Int)))]) [(4, _), (6, _), (7, _), (8, _), (16, _), (17, _)] (fun k => [(3, .mix 118 [.val (.int .u64 (kB (l.take k) (p, 0)).1.sn), .val (.int .i64 (kB (l.take k) (p, 0)).1.mn), .arr 4]), (4, .arx 30 1 ((kB (l.take k) (p, 0)).1.ps).length (((kB (l.take k) (p, 0)).1.ps).flatMap fun b => [rwB b]))]) [_, _, _, .hole, .hole] (fun k => k ≤ l.length) (fun k => l.length - k) 0 [0, 1, 2, 3, 4] (qbO _) rfl ⟨rfl, rfl, rfl, rfl, rfl, rfl, trivial⟩ ⟨rfl, rfl, trivial⟩ ⟨rfl, rfl, rfl, rfl, qH rfl rfl (fun _ => rfl), trivial⟩ ?_
 intro k hx
 simp only [upd, zaf, zag, qbp, qbq]
 have hk := hx
 obtain ⟨hqk, hqn⟩ := K3 hp (l.take k) 0
 rw [qbD] at hqn
 refine zai ?_
 refine za rfl (qq rfl (ev1 rfl) (ev1 rfl)) ?_
 refine zab ?_
 refine zad ?_
 refine qi rfl (fun c1 => ?_) (fun c1 => ?_)
 ·try simp only [decide_eq_true_eq, decide_eq_false_iff_not, beq_iff_eq, bne_iff_ne, beq_eq_false_iff_ne, bne_eq_false_iff_eq, qbl, qbm, qbi, qbo, qbk, ne_eq, Decidable.not_not, qbz, qbA] at c1
  refine zao ?_
  refine zad ?_
  refine zav ?_
  refine zad ?_
  refine zam 1 ?_
  refine zac ?_
  refine za rfl (xt (k) (by decide) rfl Ji (ev1 rfl) (ev1 rfl) (fun _ => rfl) (by omega) (fun _ => rfl)) ?_
  refine za rfl (xu rfl ye (ev1 rfl) rfl rfl) ?_
  refine zal rfl (zan 5 rfl GQ rfl) ?_
  refine zaq rfl (ka rfl ye (ev1 rfl) (ev1 rfl) rfl rfl rfl rfl) ?_
  refine zab ?_
  refine zad ?_
  by_cases h0 : (jG (kB (l.take k) (p, 0)).1 l[k]).1 = 0
  ·by_cases h2 : (kB (l.take k) (p, 0)).1.sn < l[k].sn
   ·obtain ⟨hx, hq2⟩ := HJ hqk l[k] h0 h2
    have hq1 : (kB (l.take (k + 1)) (p, 0)).1 = (jG (kB (l.take k) (p, 0)).1 l[k]).2 := by rw [gL _ _ (by omega)]
    rw [hq2] at hq1
    have hc1 : (kB (l.take (k + 1)) (p, 0)).2 = (kB (l.take k) (p, 0)).2 := by rw [gL _ _ (by omega)]; exact if_pos h0
    
    refine zam 1 ?_
    refine zac ?_
    refine zaa 1 rfl ?_
    refine za rfl (qe rfl ye (ev1 rfl) rfl rfl) ?_
    refine zal rfl (zak [3, 4] [] [6] rfl (ev1 rfl) (ec (ev1 rfl) en) rfl (by exact jW _ _ ⟨rfl, (by first | exact rfl | exact arx_fits rfl rfl (vwL_flat (fun _ => rfl) _) | exact kL rfl rfl (qw (fun _ => rfl) _) | exact qH rfl rfl (fun _ => rfl) | exact kM rfl rfl (fun _ => rfl)), trivial⟩) (try_n (kB (l.take k) (p, 0)).1 l[k] hx h2) rfl rfl rfl (by exact (wrc rfl (wrc (by first | exact rfl | exact kX (fun _ => rfl) | exact kD (qw (fun _ => rfl) _) | exact kE (fun _ => rfl) | exact kF (fun _ => rfl)) (wrc (by first | exact rfl | exact kX (fun _ => rfl) | exact kD (qw (fun _ => rfl) _) | exact kE (fun _ => rfl) | exact kF (fun _ => rfl)) rfl)))) rfl rfl) ?_
    refine za rfl (qV rfl (ev1 rfl) (ev1 rfl)) ?_
    refine zab ?_
    refine qf rfl (rfl) ?_
    refine zao ?_
    refine zac ?_
    refine za rfl (qc rfl (ev1 rfl) (ev1 rfl) (fun _ => qbg _ (by omega))) ?_
    refine zaa 1 rfl ?_
    refine zab ?_
    refine ⟨k + 1, [0, 1, 2, 3, 6], by omega, by simp only []; omega, rfl, ⟨by rw [hc1]; rfl, rfl, rfl, rfl, rfl, rfl, rfl, rfl, trivial⟩, ⟨rfl, rfl, rfl, by rw [hq1]; rfl, by rw [hq1]; exact qH (by simp) rfl (fun _ => rfl), trivial⟩⟩
   ·obtain ⟨hx, h3, h4, ⟨h5, h6⟩, hq2⟩ := X0 hqk l[k] h0 h2
    have hq1 : (kB (l.take (k + 1)) (p, 0)).1 = (jG (kB (l.take k) (p, 0)).1 l[k]).2 := by rw [gL _ _ (by omega)]
    rw [hq2] at hq1
    have hc1 : (kB (l.take (k + 1)) (p, 0)).2 = (kB (l.take k) (p, 0)).2 := by rw [gL _ _ (by omega)]; exact if_pos h0
    
    refine zac ?_
    refine zaa 1 rfl ?_
    refine za rfl (qe rfl ye (ev1 rfl) rfl rfl) ?_
    refine zal rfl (zak [3, 4] [] [] rfl (ev1 rfl) (ec (ev1 rfl) en) rfl (by exact jW _ _ ⟨rfl, (by first | exact rfl | exact arx_fits rfl rfl (vwL_flat (fun _ => rfl) _) | exact kL rfl rfl (qw (fun _ => rfl) _) | exact qH rfl rfl (fun _ => rfl) | exact kM rfl rfl (fun _ => rfl)), trivial⟩) (try_s (kB (l.take k) (p, 0)).1 l[k] hx h3 h4 h5 h6) rfl rfl rfl (by exact (wrc rfl (wrc (by first | exact rfl | exact kX (fun _ => rfl) | exact kD (qw (fun _ => rfl) _) | exact kE (fun _ => rfl) | exact kF (fun _ => rfl)) rfl))) rfl rfl) ?_
    refine za rfl (qV rfl (ev1 rfl) (ev1 rfl)) ?_
    refine zab ?_
    refine qf rfl (rfl) ?_
    refine zao ?_
    refine zac ?_
    refine za rfl (qc rfl (ev1 rfl) (ev1 rfl) (fun _ => qbg _ (by omega))) ?_
    refine zaa 1 rfl ?_
    refine zab ?_
    refine ⟨k + 1, [0, 1, 2, 3, 4], by omega, by simp only []; omega, rfl, ⟨by rw [hc1]; rfl, rfl, rfl, rfl, rfl, rfl, rfl, rfl, trivial⟩, ⟨rfl, rfl, rfl, by rw [hq1]; rfl, by rw [hq1]; exact qH (by simp) rfl (fun _ => rfl), trivial⟩⟩
  ·have hpe := HK hqk l[k] h0
   obtain ⟨e, he⟩ : ∃ e, (jG (kB (l.take k) (p, 0)).1 l[k]).1 = e := ⟨_, rfl⟩
   rw [he] at hpe h0
   have hq1 : (kB (l.take (k + 1)) (p, 0)).1 = (jG (kB (l.take k) (p, 0)).1 l[k]).2 := by rw [gL _ _ (by omega)]
   rw [hpe] at hq1
   have hc1 : (kB (l.take (k + 1)) (p, 0)).2 = (kB (l.take k) (p, 0)).2 + 1 := by rw [gL _ _ (by omega)]; exact if_neg (by rw [he]; exact h0)
   refine zac ?_
   refine zaa 1 rfl ?_
   refine za rfl (qe rfl ye (ev1 rfl) rfl rfl) ?_
   refine zal rfl (zak [3, 4] [] [] rfl (ev1 rfl) (ec (ev1 rfl) en) rfl (by exact jW _ _ ⟨rfl, (by first | exact rfl | exact arx_fits rfl rfl (vwL_flat (fun _ => rfl) _) | exact kL rfl rfl (qw (fun _ => rfl) _) | exact qH rfl rfl (fun _ => rfl) | exact kM rfl rfl (fun _ => rfl)), trivial⟩) (try_e (kB (l.take k) (p, 0)).1 l[k] hqk e h0 hpe) rfl rfl rfl (by exact (wrc rfl (wrc (by first | exact rfl | exact kX (fun _ => rfl) | exact kD (qw (fun _ => rfl) _) | exact kE (fun _ => rfl) | exact kF (fun _ => rfl)) rfl))) rfl rfl) ?_
   refine za rfl (qV rfl (ev1 rfl) (ev1 rfl)) ?_
   refine zab ?_
   refine qt rfl (by simpa using h0) ?_
   refine zac ?_
   refine zaa 1 rfl ?_
   refine za rfl (qc rfl (ev1 rfl) (ev1 rfl) (fun _ => qbg _ (by omega))) ?_
   refine zaa 1 rfl ?_
   refine zab ?_
   refine zac ?_
   refine za rfl (qc rfl (ev1 rfl) (ev1 rfl) (fun _ => qbg _ (by omega))) ?_
   refine zaa 1 rfl ?_
   refine zab ?_
   refine ⟨k + 1, [0, 1, 2, 3, 4], by omega, by simp only []; omega, rfl, ⟨by rw [hc1]; rfl, rfl, rfl, rfl, rfl, rfl, rfl, rfl, trivial⟩, ⟨rfl, rfl, rfl, by rw [hq1]; rfl, by rw [hq1]; exact qH (by simp) rfl (fun _ => rfl), trivial⟩⟩
 ·try simp only [decide_eq_true_eq, decide_eq_false_iff_not, beq_iff_eq, bne_iff_ne, beq_eq_false_iff_ne, bne_eq_false_iff_eq, qbl, qbm, qbi, qbo, qbk, ne_eq, Decidable.not_not, qbz, qbA] at c1
  refine qz ?_
  refine zad ?_
  obtain rfl : k = l.length := by omega
  rw [List.take_length]
  refine zac ?_
  refine zaa 1 rfl ?_
  refine za rfl (qC rfl (ev1 rfl) (fun s v h => by cases h; exact ⟨_, rfl⟩)) ?_
  refine za rfl (zas rfl kZ (ev1 rfl)) ?_
  refine za rfl (qe rfl jp (ev1 rfl) rfl rfl) ?_
  refine zaa 1 rfl ?_
  refine zaq rfl (ka rfl jp (ev1 rfl) (ev1 rfl) rfl rfl rfl rfl) ?_
  refine zaa 1 rfl ?_
  refine zaq rfl (qN rfl kc (ev1 rfl) (ev1 rfl) rfl) ?_
  refine zab ?_
  refine zau ?_
  refine gq (kU [2] [] rfl rfl (Qa _) rfl rfl rfl rfl rfl) ?_
  refine km [4] (rs3 rfl (vQ jp rfl rfl rfl) (qB rfl) (j4 kc rfl rfl rfl)) rfl rfl ?_ ⟨?_, trivial⟩
  rfl
  exact qH rfl rfl (fun _ => rfl)
theorem VV (p : PiM) (hp : jh p = true) (l : List PcM) (hl : l.length ≤ 100000) : DFun Tryz.prog 37 [.agg (piD p), .slm 4 l.length (l.flatMap pcD)] [] (.tup [.agg (piD (kB l (p, 0)).1), .val (.int .i64 ((kB l (p, 0)).2 : Nat)), .val (.int .i64 0)]) [] := gz (HL p (by have := (vl hp).1; omega) (fun b hb => by have := (vl hp).2 b hb; omega) hp l hl) (UK GU)
def yM (p : PiM) : Int × Bool := if noB p = true then (0, true) else if ym p.ps 0 < 0 then (0, false) else if jh p = true then (ym p.ps 0, true) else (0, false)
def yf (p : PiM) : Bool := !((noB p || decide (0 ≤ ym p.ps 0)) || !(jh p))
theorem X1 (p : PiM) (hn : p.ps.length ≤ 5000) : DFun Tryz.prog 33 [.agg (piD p)] [] (.tup [.val (.int .i64 (yM p).1), .val (.bool (yM p).2)]) [] := by
 refine zap (N := 17) 0 (by kernel_rfl) Tryz.func33 rfl rfl rfl (by simp only [fr0, qbh, qbj]; exact rfl) rfl fun s0 hs0 => ?_
 refine zad ?_
 refine zam 1 ?_
 refine zac ?_
 refine zal rfl (qp 0 rfl (ev1 rfl) rfl) ?_
 refine zaa 2 rfl ?_
 refine zab ?_
 refine zad ?_
 refine zai ?_
 refine za rfl (qe rfl jp (ev1 rfl) rfl rfl) ?_
 refine za rfl (zak [] [] [] rfl (ev1 rfl) (ec (ev1 rfl) en) rfl rfl (ut _) rfl rfl rfl rfl rfl rfl) ?_
 refine zab ?_
 refine qi rfl (fun c1 => ?_) (fun c1 => ?_)
 ·refine zai ?_
  refine zaa 2 rfl ?_
  refine zab ?_
  refine zau ?_
  refine qo (rs2 rfl (qB rfl) (qB rfl)) rfl ?_
  have h : yM p = (0, true) := by unfold yM; rw [if_pos c1]
  rw [h]
 ·refine zao ?_
  refine zai ?_
  refine za rfl (qe rfl jp (ev1 rfl) rfl rfl) ?_
  refine za rfl (zak [] [] [] rfl (ev1 rfl) (ec (ev1 rfl) en) rfl rfl (zj _) rfl rfl rfl rfl rfl rfl) ?_
  refine zaa 1 rfl ?_
  refine zab ?_
  refine zad ?_
  refine zai ?_
  refine zaa 1 rfl ?_
  refine za rfl (qq rfl (ev1 rfl) (ev1 rfl)) ?_
  refine zaa 1 rfl ?_
  refine zah (qa rfl rfl rfl) rfl rfl rfl (qe rfl jp (ev1 rfl) rfl rfl) ?_
  refine zah (qa rfl rfl rfl) rfl rfl rfl (zak [] [] [] rfl (ev1 rfl) (ec (ev2 rfl) en) rfl rfl (GR p hn) rfl rfl rfl rfl rfl rfl) ?_
  refine zah (qa rfl rfl rfl) rfl rfl rfl (qV rfl (ev2 rfl) (ev1 rfl)) ?_
  refine za rfl (qK rfl (ev1 rfl) (ev3 rfl id)) ?_
  refine zab ?_
  refine qi rfl (fun c2 => ?_) (fun c2 => ?_)
  ·refine zai ?_
   refine zaa 2 rfl ?_
   refine zab ?_
   refine zau ?_
   refine qo (rs2 rfl (qB rfl) (qB rfl)) rfl ?_
   have h : yM p = (0, false) := by
    unfold yM
    rw [if_neg (by rw [c1]; decide)]
    rw [yH _ (by decide), qbo, decide_eq_true_eq] at c2
    rcases c2 with c2 | c2
    ·rw [if_pos c2]
    ·rw [if_neg (show ¬ jh p = true by simpa using c2)]; split <;> rfl
   rw [h]
  ·refine zao ?_
   refine zai ?_
   refine zaa 3 rfl ?_
   refine zab ?_
   refine zau ?_
   refine qo (rs2 rfl (qB rfl) (qB rfl)) rfl ?_
   have h : yM p = (ym p.ps 0, true) := by
    unfold yM
    rw [yH _ (by decide), qbk, decide_eq_false_iff_not] at c2
    rw [if_neg (by rw [c1]; decide), if_neg c2.1, if_pos (by simpa using c2.2)]
   rw [h]
theorem HM (p : PiM) (hn : p.ps.length ≤ 5000) (hw : yf p = false) : DFun Tryz.prog 35 [.agg (piD p)] [] (.tup [.val (.slice none 0 0), .val (.bool false)]) [] := by
 refine zap (N := 19) 0 (by kernel_rfl) Tryz.func35 rfl rfl rfl (by simp only [fr0, qbh, qbj]; exact rfl) rfl fun s0 hs0 => ?_
 refine zad ?_
 refine zam 1 ?_
 refine zac ?_
 refine zal rfl (qp 0 rfl (ev1 rfl) rfl) ?_
 refine zaa 2 rfl ?_
 refine zab ?_
 refine zad ?_
 refine zai ?_
 refine za rfl (qe rfl jp (ev1 rfl) rfl rfl) ?_
 refine za rfl (zak [] [] [] rfl (ev1 rfl) (ec (ev1 rfl) en) rfl rfl (ut _) rfl rfl rfl rfl rfl rfl) ?_
 refine zaa 1 rfl ?_
 refine zah (qa rfl rfl rfl) rfl rfl rfl (qe rfl jp (ev1 rfl) rfl rfl) ?_
 refine zah (qa rfl rfl rfl) rfl rfl rfl (zak [] [] [] rfl (ev1 rfl) (ec (ev2 rfl) en) rfl rfl (zj _) rfl rfl rfl rfl rfl rfl) ?_
 refine zah (qa rfl rfl rfl) rfl rfl rfl (gI rfl (ev2 rfl) (ev1 rfl)) ?_
 refine za rfl (qK rfl (ev1 rfl) (ev3 rfl id)) ?_
 refine zaa 1 rfl ?_
 refine zah (qa rfl rfl rfl) rfl rfl rfl (qe rfl jp (ev1 rfl) rfl rfl) ?_
 refine zah (qa rfl rfl rfl) rfl rfl rfl (zak [] [] [] rfl (ev1 rfl) (ec (ev2 rfl) en) rfl rfl (GR p hn) rfl rfl rfl rfl rfl rfl) ?_
 refine zah (qa rfl rfl rfl) rfl rfl rfl (qV rfl (ev2 rfl) (ev1 rfl)) ?_
 refine za rfl (qK rfl (ev1 rfl) (ev3 rfl id)) ?_
 refine zab ?_
 refine qt rfl (by rw [yH _ (by decide)]; unfold yf at hw; rw [qbm] at hw; exact hw) ?_
 refine zai ?_
 refine zaa 2 rfl ?_
 refine zab ?_
 refine zau ?_
 refine qo (rs2 rfl (qB rfl) (qB rfl)) rfl ?_
 rfl
theorem VW (p : PiM) (hn : p.ps.length ≤ 5000) (hw : yf p = true) (hf : p.ps.flatten.length ≤ 100000000) : DFun Tryz.prog 35 [.agg (piD p)] [] (.tup [.slf 1 (p.ps.flatten).length ((p.ps.flatten).flatMap uc8), .val (.bool true)]) [] := by
 refine zap (N := 19) 0 (by kernel_rfl) Tryz.func35 rfl rfl rfl (by simp only [fr0, qbh, qbj]; exact rfl) rfl fun s0 hs0 => ?_
 refine zad ?_
 refine zam 1 ?_
 refine zac ?_
 refine zal rfl (qp 0 rfl (ev1 rfl) rfl) ?_
 refine zaa 2 rfl ?_
 refine zab ?_
 refine zad ?_
 refine zai ?_
 refine za rfl (qe rfl jp (ev1 rfl) rfl rfl) ?_
 refine za rfl (zak [] [] [] rfl (ev1 rfl) (ec (ev1 rfl) en) rfl rfl (ut _) rfl rfl rfl rfl rfl rfl) ?_
 refine zaa 1 rfl ?_
 refine zah (qa rfl rfl rfl) rfl rfl rfl (qe rfl jp (ev1 rfl) rfl rfl) ?_
 refine zah (qa rfl rfl rfl) rfl rfl rfl (zak [] [] [] rfl (ev1 rfl) (ec (ev2 rfl) en) rfl rfl (zj _) rfl rfl rfl rfl rfl rfl) ?_
 refine zah (qa rfl rfl rfl) rfl rfl rfl (gI rfl (ev2 rfl) (ev1 rfl)) ?_
 refine za rfl (qK rfl (ev1 rfl) (ev3 rfl id)) ?_
 refine zaa 1 rfl ?_
 refine zah (qa rfl rfl rfl) rfl rfl rfl (qe rfl jp (ev1 rfl) rfl rfl) ?_
 refine zah (qa rfl rfl rfl) rfl rfl rfl (zak [] [] [] rfl (ev1 rfl) (ec (ev2 rfl) en) rfl rfl (GR p hn) rfl rfl rfl rfl rfl rfl) ?_
 refine zah (qa rfl rfl rfl) rfl rfl rfl (qV rfl (ev2 rfl) (ev1 rfl)) ?_
 refine za rfl (qK rfl (ev1 rfl) (ev3 rfl id)) ?_
 refine zab ?_
 refine qf rfl (by rw [yH _ (by decide)]; unfold yf at hw; rw [qbl] at hw; exact hw) ?_
 refine zao ?_
 refine zai ?_
 refine za rfl (zas rfl yr (ev1 rfl)) ?_
 refine za rfl (zat rfl zh (ev1 rfl) rfl rfl) ?_
 refine za rfl (zak [] [] [] rfl (ev1 rfl) (ec (ev1 rfl) en) rfl rfl (Y7 p.ps _ _ rfl rfl hf) rfl rfl rfl rfl rfl rfl) ?_
 refine zaa 2 rfl ?_
 refine zab ?_
 refine zau ?_
 refine qo (rs2 rfl (qB rfl) (qB rfl)) rfl ?_
 rfl
end Go.Proofs.YtofklkbfkoliiaaGreat
namespace Go.Proofs.YtofklkbfkoliiaaGreat
set_option linter.unusedVariables false
set_option linter.unusedSimpArgs false
open Go.RowKit
attribute [local irreducible] tkN k6 kw
theorem tb48 : tyB Tryz.prog 48 = some (false, 1) := by kernel_rfl
theorem zr48 : zrC Tryz.prog 48 = some [.slice none 0 0] := by kernel_rfl
def mnN (b : List Int) : Nat := (b.length + 255) / 256
def gv (b : List Int) (k : Nat) : List Int := (b.drop (k * 256)).take (min b.length ((k + 1) * 256) - k * 256)
theorem J1 (b : List Int) (k : Nat) : (gv b k).length ≤ 256 := by
 unfold gv
 rw [qbD]
 omega
def pcK (sn : Int) (b : List Int) (k : Nat) : PcM := ⟨sn, k, mnN b, gv b k⟩
def vo (sn : Int) (b : List Int) : List PcM := (qbW (mnN b)).map (pcK sn b)
theorem X2 (sn : Int) (b : List Int) (k : Nat) : (qbW (k + 1)).map (pcK sn b) = (qbW k).map (pcK sn b) ++ [pcK sn b k] := by
 rw [List.range_succ, List.map_append]; rfl
theorem Ax (l : List PcM) : D.nlL (l.flatMap pcD) = true := by
 induction l with
 | nil => rfl
 | cons b r ih => rw [qbB]; exact ih
theorem VX {σ : List Nat} {V : Nat → Bool} {M : List Blk} {T : TypeId} {n n' : Nat} {l l' : List PcM} (hn : n = n') (hl : l = l') : (vwL σ V M (l.flatMap pcD)).map (Blk.arx T 4 n) = some (Blk.arx T 4 n' (l'.flatMap pcD)) := kM hn hl (fun _ => rfl)
theorem pcs_d (sn : Int) (b : List Int) (h1 : snB sn = true) (h2 : 0 < b.length) (h3 : b.length ≤ 16384) : DFun Tryz.prog 64 [.val (.int .u64 sn), .slf 1 (b).length ((b).flatMap uc8)] [] (.fn (.func 101) [] [.loc 0 0, .loc 1 0, .loc 2 0]) [.flat 3 [.int .i64 (mnN b : Nat)], .mix 30 [.slf 1 (b).length ((b).flatMap uc8)], .flat 25 [.int .u64 sn]] := by
 refine zap (N := 28) 0 (by kernel_rfl) Tryz.func64 rfl rfl rfl (by simp only [fr0, qbh, qbj]; exact rfl) rfl fun s0 hs0 => ?_
 refine ko (t := 1) rfl fun hl1 hL1 => ?_
 refine zad ?_
 refine zam 2 ?_
 refine zac ?_
 refine zal rfl (xi 0 rfl (ev1 rfl) rfl) ?_
 refine zal rfl (gW 1 rfl (ev1 rfl) (fun s v h => by cases h <;> rfl) rfl) ?_
 refine zaa 1 rfl ?_
 refine zab ?_
 refine zai ?_
 refine za rfl (qx rfl kC (ev1 rfl) rfl rfl) ?_
 refine za rfl (gI rfl (ev1 rfl) (ev1 rfl)) ?_
 refine zaa 1 rfl ?_
 refine zah (qd rfl rfl rfl) rfl rfl rfl (qx rfl kC (ev1 rfl) rfl rfl) ?_
 refine zah (qd rfl rfl rfl) rfl rfl rfl (gS rfl (ev2 rfl) (ev1 rfl)) ?_
 refine za rfl (qF rfl (ev1 rfl) (ev3 rfl id)) ?_
 refine zaa 1 rfl ?_
 refine zah (qd rfl rfl rfl) rfl rfl rfl (zat rfl jg (ev1 rfl) rfl rfl) ?_
 refine zah (qd rfl rfl rfl) rfl rfl rfl (qm rfl qg (ev2 rfl)) ?_
 refine zah (qd rfl rfl rfl) rfl rfl rfl (kg rfl (ev2 rfl) (ev1 rfl)) ?_
 refine za rfl (qF rfl (ev1 rfl) (ev3 rfl id)) ?_
 refine za rfl (zak [] [] [] rfl (ev1 rfl) (ec (ev1 rfl) (ec (ev1 rfl) en)) rfl rfl (ky _ _ (by unfold snB at h1; rw [h1, decide_eq_true (by omega)]; rfl)) rfl rfl rfl rfl rfl rfl) ?_
 refine zab ?_
 refine zai ?_
 refine za rfl (zat rfl jg (ev1 rfl) rfl rfl) ?_
 refine za rfl (qm rfl qg (ev1 rfl)) ?_
 refine za rfl (gS rfl (ev1 rfl) (ev1 rfl)) ?_
 refine za rfl (zak [] [] [] rfl (ev1 rfl) (ec (ev1 rfl) (ec (ev1 rfl) en)) rfl rfl (ky _ _ (decide_eq_true (by omega))) rfl rfl rfl rfl rfl rfl) ?_
 refine zab ?_
 refine zad ?_
 refine zam 1 ?_
 refine zac ?_
 refine za rfl (zat rfl jg (ev1 rfl) rfl rfl) ?_
 refine za rfl (qm rfl qg (ev1 rfl)) ?_
 refine za rfl (qc rfl (ev1 rfl) (ev1 rfl) (fun _ => qbg _ (by omega))) ?_
 refine za rfl (je rfl (ev1 rfl) (ev1 rfl) (fun _ => qbg _ (by omega))) ?_
 refine za rfl ((Vd rfl (ev1 rfl) (ev1 rfl) (fun _ => ⟨by omega, by omega, qbg _ (by omega)⟩)).cast (d' := .val (.int .i64 (mnN b : Nat))) (by unfold mnN; simp; omega)) ?_
 refine zal rfl (zan 2 rfl zr3 rfl) ?_
 refine zaq rfl (qN rfl tb3 (ev1 rfl) (ev1 rfl) rfl) ?_
 refine zab ?_
 refine zai ?_
 refine za rfl (ki rfl en (ec (ev1 rfl) (ec (ev1 rfl) (ec (ev1 rfl) en)))) ?_
 refine zaa 1 rfl ?_
 refine zab ?_
 refine zau ?_
 refine km [2, 1, 0] (rs1 rfl (qB rfl)) rfl rfl ?_ ⟨rfl, rfl, rfl, trivial⟩
 rfl
noncomputable def cutA : Code := rfA (pth [1, 1, 1, 0, 1, 0] (wO Tryz.f19))
noncomputable def cutB : Code := rfB (pth [1, 1, 1, 0, 1, 0] (wO Tryz.f19))
theorem Qc (R : List PcM) (x : PcM) (hR : R.length ≤ 1000) : DRound Tryz.prog 0 [.agg (pcD x)] [.lp none 18 [(6, .loc 1 0)] #[12] cutA cutB .ready none, .mix 48 [.arr 2], .arx 53 4 (R).length ((R).flatMap pcD)] true [.lp none 18 [(6, .loc 1 0)] #[12] cutA cutB .ready none, .mix 48 [.arr 3], .gone, .arx 53 4 ((R ++ [x])).length (((R ++ [x])).flatMap pcD)] := by
 refine yZ 3 rfl rfl (by simp) rfl rfl fun s0 hs0 => ?_
 refine zam 1 ?_
 refine zac ?_
 refine zal rfl (zan 3 rfl GQ rfl) ?_
 refine zaq rfl (ka rfl ye (ev1 rfl) (ev1 rfl) rfl rfl rfl rfl) ?_
 refine zab ?_
 refine ⟨rfl, ?_⟩
 simp only [zaf, zag]
 refine zav ?_
 refine zam 1 ?_
 refine zac ?_
 refine za rfl (zat rfl tb48 (ev1 rfl) rfl rfl) ?_
 refine za rfl (qe rfl ye (ev1 rfl) rfl rfl) ?_
 refine za rfl (QG (ps := [(0, .tmp 14)]) rfl Ji GQ rfl (ec (ev1 rfl) en) rfl rfl rfl (by rfl) rfl (by decide) (by decide)) ?_
 refine zal rfl (Vt (j := 4) rfl Ji GQ rfl (ev1 rfl) (ev1 rfl) rfl rfl (rfl) (fun _ => ⟨by omega, by omega⟩)) ?_
 refine zaq rfl (kQ rfl tb48 (ev1 rfl) (ev1 rfl) (fun s v h => by cases h <;> exact ⟨rfl, rfl⟩) rfl (by first | decide | exact qbr rfl | simp)) ?_
 refine zab ?_
 refine ⟨rfl, rfl, [0, 1, 2, 4], rfl, ⟨rfl, rfl, rfl, kL (by simp) (by rw [List.flatMap_append]; rfl) (Ax _), trivial⟩⟩
theorem qaT (sn : Int) (b : List Int) (h2 : 0 < b.length) (h3 : b.length ≤ 16384) : DFun Tryz.prog 101 [.yld 0, .loc 3 0, .loc 4 0, .loc 5 0] [.lp none 18 [(6, .loc 1 0)] #[12] cutA cutB .ready none, .mix 48 [.arr 2], .arx 53 4 (([] : List PcM)).length ((([] : List PcM)).flatMap pcD), .flat 3 [.int .i64 (mnN b : Nat)], .mix 30 [.slf 1 (b).length ((b).flatMap uc8)], .flat 25 [.int .u64 sn]] (.tup []) [.lp none 18 [(6, .loc 1 0)] #[12] cutA cutB .ready none, .mix 48 [.arr 6], .gone, .flat 3 [.int .i64 (mnN b : Nat)], .mix 30 [.slf 1 (b).length ((b).flatMap uc8)], .flat 25 [.int .u64 sn], .arx 53 4 ((vo sn b)).length (((vo sn b)).flatMap pcD)] := by
 have hmn : mnN b = (b.length + 255) / 256 := rfl
 refine zap (N := 34) 6 (by kernel_rfl) Tryz.func101 rfl rfl rfl (by simp only [fr0, qbh, qbj]; exact rfl) rfl fun s0 hs0 => ?_
 refine zai ?_
 refine za rfl (qx rfl tb3 (ev1 rfl) rfl rfl) ?_
 refine zaa 1 rfl ?_
 refine zab ?_
 refine zav ?_
 refine vP (k5 ?_)
 refine zai ?_
 refine za rfl (qq rfl (ev1 rfl) (ev1 rfl)) ?_
 refine zab ?_
 refine zad ?_
 refine qt rfl (by simp; omega) ?_
 refine zao ?_
 refine zad ?_
 refine zav ?_
 refine zai ?_
 refine zaa 2 rfl ?_
 refine zab ?_
 refine zad ?_
 refine qh [([], []), ([], []), ([4], []), ([], []), ([], []), ([], []), ([], []), ([], []), ([], []), ([], [])] qJ (by kernel_rfl) ?_
 refine zae rfl rfl (zaj (.inl rfl) (ev1 rfl)) ?_
 refine zae rfl rfl (jL rfl (ev1 rfl) (ev1 rfl) (fun _ => qbg _ (by omega))) ?_
 refine zae rfl rfl (zat rfl jg (ev1 rfl) rfl rfl) ?_
 refine zae rfl rfl (qm rfl qg (ev1 rfl)) ?_
 refine zae rfl rfl (zaj (.inl rfl) (ev1 rfl)) ?_
 refine zae rfl rfl (qc rfl (ev1 rfl) (ev1 rfl) (fun _ => qbg _ (by omega))) ?_
 refine zae rfl rfl (jL rfl (ev1 rfl) (ev1 rfl) (fun _ => qbg _ (by omega))) ?_
 refine zae rfl rfl (vh rfl (ev1 rfl) (ev1 rfl)) ?_
 refine zae rfl rfl (zaj (.inr rfl) (ev1 rfl)) ?_
 refine zae rfl rfl (zaj (.inr rfl) (ev1 rfl)) ?_
 refine ql ?_
 refine zad ?_
 refine zam 1 ?_
 refine qh [([], []), ([5], []), ([], []), ([3], []), ([4], []), ([], []), ([], []), ([], []), ([], []), ([], []), ([], []), ([0, 1, 2, 6], [0, 1, 2, 6]), ([], [])] qJ (by kernel_rfl) ?_
 refine zae rfl rfl (zaj (.inl rfl) (ev1 rfl)) ?_
 refine zae rfl rfl (qx rfl kC (ev1 rfl) rfl rfl) ?_
 refine zae rfl rfl (zaj (.inl rfl) (ev1 rfl)) ?_
 refine zae rfl rfl (qx rfl tb3 (ev1 rfl) rfl rfl) ?_
 refine zae rfl rfl (zat rfl jg (ev1 rfl) rfl rfl) ?_
 refine zae rfl rfl (zaj (.inl rfl) (ev1 rfl)) ?_
 refine zae rfl rfl (zaj (.inl rfl) (ev1 rfl)) ?_
 refine zae rfl rfl (zaj (.inl rfl) (ev1 rfl)) ?_
 refine zae rfl rfl (zP (i := 0 * 256) (j := min b.length ((0 + 1) * 256)) rfl qg (ev1 rfl) (ev1 rfl) (ev1 rfl) (ev1 rfl) (fun hp => by first | omega | (simp at hp; omega)) (fun hp => by first | omega | (simp at hp; omega)) (fun hp => by first | omega | (simp at hp; omega)) (fun hp => by first | omega | (simp at hp; omega)) (fun _ => rfl)) ?_
 refine zae rfl rfl (zak [] [] [] rfl (ev1 rfl) (ec (ev1 rfl) en) rfl rfl (gC (gv b 0) (by have := J1 b 0; omega)) rfl rfl rfl rfl rfl rfl) ?_
 refine zae rfl rfl (gc (ps := [(0, .tmp 21), (1, .tmp 22), (2, .tmp 23), (3, .tmp 29)]) rfl fl53 GQ (ec (ev1 rfl) (ec (ev1 rfl) (ec (ev1 rfl) (ec (ev1 rfl) en)))) rfl rfl rfl) ?_
 refine gg rfl rfl (Yn (i := 0) [0, 1, 2] [] [6] rfl (ev1 rfl) (ec (ev1 rfl) en) rfl rfl (by exact jW _ _ ⟨rfl, rfl, (by first | exact rfl | exact arx_fits rfl rfl (vwL_flat (fun _ => rfl) _) | exact kL rfl rfl (qw (fun _ => rfl) _) | exact qH rfl rfl (fun _ => rfl) | exact kM rfl rfl (fun _ => rfl)), trivial⟩) (Qc [] (pcK sn b 0) (by simp; try omega)) rfl rfl rfl (by exact (wrc rfl (wrc rfl (wrc rfl (wrc (by first | exact rfl | exact kX (fun _ => rfl) | exact kD (qw (fun _ => rfl) _) | exact kE (fun _ => rfl) | exact kF (fun _ => rfl)) rfl))))) rfl) rfl (by simp only [upd, zaf, zag]; exact rfl) ?_
 refine zae rfl rfl (ku rfl (ev1 rfl)) ?_
 refine ql ?_
 refine qf rfl (rfl) ?_
 refine zao ?_
 refine zac ?_
 refine za rfl (qc rfl (ev1 rfl) (ev1 rfl) (fun _ => qbg _ (by omega))) ?_
 refine zaa 1 rfl ?_
 refine zab ?_
 refine AQ ⟨hs0, rfl⟩ (α := Nat) (fun k => [(9, .val (.int .i64 (k : Int)))]) [(0, _), (1, _), (2, _), (3, _), (8, _)] (fun k => [(6, .arx 53 4 (((qbW k).map (pcK sn b))).length ((((qbW k).map (pcK sn b))).flatMap pcD))]) [_, _, _, _, _, _, .hole] (fun k => 1 ≤ k ∧ k ≤ mnN b) (fun k => mnN b - k) 1 [0, 1, 2, 3, 4, 5, 6] (⟨qby _, by omega⟩) rfl ⟨rfl, rfl, rfl, rfl, rfl, trivial⟩ ⟨rfl, trivial⟩ ⟨rfl, rfl, rfl, rfl, rfl, rfl, by rfl, trivial⟩ ?_
 intro k hx
 simp only [upd, zaf, zag, qbp, qbq]
 obtain ⟨hk1, hk⟩ := hx
 refine zai ?_
 refine za rfl (qq rfl (ev1 rfl) (ev1 rfl)) ?_
 refine zab ?_
 refine zad ?_
 refine qi rfl (fun c3 => ?_) (fun c3 => ?_)
 ·try simp only [decide_eq_true_eq, decide_eq_false_iff_not, beq_iff_eq, bne_iff_ne, beq_eq_false_iff_ne, bne_eq_false_iff_eq, qbl, qbm, qbi, qbo, qbk, ne_eq, Decidable.not_not, qbz, qbA] at c3
  refine zao ?_
  refine zad ?_
  refine zav ?_
  refine zai ?_
  refine zaa 2 rfl ?_
  refine zab ?_
  refine zad ?_
  refine qh [([], []), ([], []), ([4], []), ([], []), ([], []), ([], []), ([], []), ([], []), ([], []), ([], [])] qJ (by kernel_rfl) ?_
  refine zae rfl rfl (zaj (.inl rfl) (ev1 rfl)) ?_
  refine zae rfl rfl (jL rfl (ev1 rfl) (ev1 rfl) (fun _ => qbg _ (by omega))) ?_
  refine zae rfl rfl (zat rfl jg (ev1 rfl) rfl rfl) ?_
  refine zae rfl rfl (qm rfl qg (ev1 rfl)) ?_
  refine zae rfl rfl (zaj (.inl rfl) (ev1 rfl)) ?_
  refine zae rfl rfl (qc rfl (ev1 rfl) (ev1 rfl) (fun _ => qbg _ (by omega))) ?_
  refine zae rfl rfl (jL rfl (ev1 rfl) (ev1 rfl) (fun _ => qbg _ (by omega))) ?_
  refine zae rfl rfl (vh rfl (ev1 rfl) (ev1 rfl)) ?_
  refine zae rfl rfl (zaj (.inr rfl) (ev1 rfl)) ?_
  refine zae rfl rfl (zaj (.inr rfl) (ev1 rfl)) ?_
  refine ql ?_
  refine zad ?_
  refine zam 1 ?_
  refine qh [([], []), ([5], []), ([], []), ([3], []), ([4], []), ([], []), ([], []), ([], []), ([], []), ([], []), ([], []), ([0, 1, 6, 7], [0, 1, 6, 7]), ([], [])] qJ (by kernel_rfl) ?_
  refine zae rfl rfl (zaj (.inl rfl) (ev1 rfl)) ?_
  refine zae rfl rfl (qx rfl kC (ev1 rfl) rfl rfl) ?_
  refine zae rfl rfl (zaj (.inl rfl) (ev1 rfl)) ?_
  refine zae rfl rfl (qx rfl tb3 (ev1 rfl) rfl rfl) ?_
  refine zae rfl rfl (zat rfl jg (ev1 rfl) rfl rfl) ?_
  refine zae rfl rfl (zaj (.inl rfl) (ev1 rfl)) ?_
  refine zae rfl rfl (zaj (.inl rfl) (ev1 rfl)) ?_
  refine zae rfl rfl (zaj (.inl rfl) (ev1 rfl)) ?_
  refine zae rfl rfl (zP (i := k * 256) (j := min b.length ((k + 1) * 256)) rfl qg (ev1 rfl) (ev1 rfl) (ev1 rfl) (ev1 rfl) (fun hp => by first | omega | (simp at hp; omega)) (fun hp => by first | omega | (simp at hp; omega)) (fun hp => by first | omega | (simp at hp; omega)) (fun hp => by first | omega | (simp at hp; omega)) (fun _ => rfl)) ?_
  refine zae rfl rfl (zak [] [] [] rfl (ev1 rfl) (ec (ev1 rfl) en) rfl rfl (gC (gv b k) (by have := J1 b k; omega)) rfl rfl rfl rfl rfl rfl) ?_
  refine zae rfl rfl (gc (ps := [(0, .tmp 21), (1, .tmp 22), (2, .tmp 23), (3, .tmp 29)]) rfl fl53 GQ (ec (ev1 rfl) (ec (ev1 rfl) (ec (ev1 rfl) (ec (ev1 rfl) en)))) rfl rfl rfl) ?_
  refine gg rfl rfl (Yn (i := 0) [0, 1, 6] [] [7] rfl (ev1 rfl) (ec (ev1 rfl) en) rfl rfl (by exact jW _ _ ⟨rfl, rfl, (by first | exact rfl | exact arx_fits rfl rfl (vwL_flat (fun _ => rfl) _) | exact kL rfl rfl (qw (fun _ => rfl) _) | exact qH rfl rfl (fun _ => rfl) | exact kM rfl rfl (fun _ => rfl)), trivial⟩) (Qc ((qbW k).map (pcK sn b)) (pcK sn b k) (by simp; try omega)) rfl rfl rfl (by exact (wrc rfl (wrc rfl (wrc rfl (wrc (by first | exact rfl | exact kX (fun _ => rfl) | exact kD (qw (fun _ => rfl) _) | exact kE (fun _ => rfl) | exact kF (fun _ => rfl)) rfl))))) rfl) rfl (by simp only [upd, zaf, zag]; exact rfl) ?_
  refine zae rfl rfl (ku rfl (ev1 rfl)) ?_
  refine ql ?_
  refine qf rfl (rfl) ?_
  refine zao ?_
  refine zac ?_
  refine za rfl (qc rfl (ev1 rfl) (ev1 rfl) (fun _ => qbg _ (by omega))) ?_
  refine zaa 1 rfl ?_
  refine zab ?_
  refine ⟨k + 1, [0, 1, 2, 3, 4, 5, 7], ⟨by omega, by omega⟩, by simp only []; omega, rfl, ⟨rfl, rfl, rfl, rfl, rfl, rfl, trivial⟩, ⟨rfl, rfl, rfl, rfl, rfl, rfl, VX (by simp) (X2 sn b k).symm, trivial⟩⟩
 ·try simp only [decide_eq_true_eq, decide_eq_false_iff_not, beq_iff_eq, bne_iff_ne, beq_eq_false_iff_ne, bne_eq_false_iff_eq, qbl, qbm, qbi, qbo, qbk, ne_eq, Decidable.not_not, qbz, qbA] at c3
  refine qz ?_
  obtain rfl : k = mnN b := by omega
  refine km [0, 1, 2, 3, 4, 5, 6] (qI rfl) rfl rfl ?_ ⟨?_, ?_, ?_, ?_, ?_, ?_, ?_, trivial⟩
  rfl
  all_goals first | exact rfl | exact VX rfl rfl
theorem X3 (sn : Int) (b : List Int) (h1 : snB sn = true) (h2 : 0 < b.length) (h3 : b.length ≤ 16384) : DFun Tryz.prog 19 [.val (.int .u64 sn), .slf 1 (b).length ((b).flatMap uc8)] [] (.tup [.slm 4 (vo sn b).length ((vo sn b).flatMap pcD), .val (.int .i64 0)]) [] := by
 refine qA (N := 18) 0 (by kernel_rfl) Tryz.func19 rfl rfl rfl (by simp only [fr0, qbh, qbj]; exact rfl) rfl fun s0 hs0 => ?_
 refine qP rfl hs0 ?_
 refine zam 1 ?_
 refine zac ?_
 refine zaa 1 rfl ?_
 refine zal rfl (zan 0 rfl gB rfl) ?_
 refine zab ?_
 refine qD (l0 := [_]) rfl rfl rfl rfl rfl hs0 ?_
 refine za rfl (ki rfl en (ec (ev1 rfl) en)) ?_
 refine zab ⟨_, _, _, 1, ev1 rfl, qbE hs0 (by decide), rfl, ?_⟩
 have hs1 : s0.M.length ≤ 1 := qbE hs0 (by decide)
 refine qO rfl hs0 ?_
 refine zad ?_
 refine zam 1 ?_
 refine zac ?_
 refine zal rfl (zan 1 rfl zr48 rfl) ?_
 refine zab ?_
 refine zad ?_
 refine zad ?_
 refine zam 3 ?_
 refine zac ?_
 refine zaa 2 rfl ?_
 refine zal rfl (zak [] [] [2, 3, 4] rfl (ev1 rfl) (ec (ev1 rfl) (ec (ev1 rfl) en)) rfl rfl (pcs_d sn b h1 h2 h3) rfl rfl rfl rfl rfl rfl) ?_
 refine zab ?_
 refine zav ?_
 refine Kt 1 53 4 rfl (by simp only [qbp, qbq, zaf, zag, qbC, qbQ, qbh, qbj]; exact rfl) ?_
 refine jf 5 ZK rfl rfl (by simp only [qbp, qbq, zaf, zag, List.map]; exact rfl) ?_
 refine vd ?_
 refine vd ?_
 simp only [qbp, qbq]
 refine Qz (FL := [(6, _)]) (st := .ready) (pe := none) [6, 1, 5, 2, 3, 4] [] [7] 6 rfl rfl (ev1 rfl) rfl (ui ⟨rfl, trivial⟩) rfl rfl rfl (qaT sn b h2 h3) rfl rfl rfl (by exact (wrc rfl (wrc rfl (wrc rfl (wrc rfl (wrc rfl (wrc rfl (wrc (by first | exact rfl | exact kX (fun _ => rfl) | exact kD (qw (fun _ => rfl) _) | exact kE (fun _ => rfl) | exact kF (fun _ => rfl)) rfl)))))))) rfl rfl rfl (by simp) (fun e => ?_) (fun c e => ?_)
 ·simp only [upd, zaf, zag]
  refine zad ?_
  refine JD 1 0 (Ax _) rfl rfl rfl (by simp only [zaf, zag]; exact rfl) ?_
  refine zac ?_
  refine za rfl (zat rfl tb48 (ev1 rfl) rfl rfl) ?_
  refine zaa 1 rfl ?_
  refine zaq rfl (qN rfl kc (ev1 rfl) (ev1 rfl) rfl) ?_
  refine zab ?_
  refine zau ?_
  refine gq (kU [0] [] rfl rfl (QZ _) rfl rfl rfl rfl rfl) ?_
  refine qo (rs2 rfl (qB rfl) (j4 kc rfl rfl rfl)) rfl ?_
  rfl
 ·cases e
end Go.Proofs.YtofklkbfkoliiaaGreat
namespace Go.Proofs.YtofklkbfkoliiaaGreat
set_option linter.unusedVariables false
set_option linter.unusedSimpArgs false
open Go.RowKit
theorem Q1 : jh zPi = true := by kernel_rfl
end Go.Proofs.YtofklkbfkoliiaaGreat
namespace Go.Proofs.YtofklkbfkoliiaaGreat
set_option linter.unusedVariables false
set_option linter.unusedSimpArgs false
open Go.RowKit
attribute [local irreducible] qX kI jK kA qM kt rdP rdN ya
theorem q0 {a : List Int} (ha : isB a) (n : Nat) : isB (a.drop n) := fun z hz => ha z (List.mem_of_mem_drop hz)
end Go.Proofs.YtofklkbfkoliiaaGreat
namespace Go.Proofs.YtofklkbfkoliiaaGreat
set_option linter.unusedVariables false
set_option linter.unusedSimpArgs false
open Go.RowKit
attribute [local irreducible] tkN k6 kw
theorem gM : fdO Tryz.prog 29 0 = some 0 := by kernel_rfl
theorem yu : fdO Tryz.prog 29 1 = some 3 := by kernel_rfl
theorem yg : fdO Tryz.prog 29 2 = some 4 := by kernel_rfl
theorem yv : fdO Tryz.prog 29 3 = some 5 := by kernel_rfl
structure SnM where
 w : Int
 h : Int
 ts : List TL
 f : Int
 st : Int
 v : Vec
def snL (s : SnM) : List D := [.val (.int .i64 s.w), .val (.int .i64 s.h), .slf 256 s.ts.length (s.ts.flatMap tc), .val (.int .u64 s.f), .val (.int .u64 s.st), .val (.int .u64 (s.v 0)), .val (.int .u64 (s.v 1)), .val (.int .u64 (s.v 2)), .val (.int .u64 (s.v 3)), .val (.int .u64 (s.v 4)), .val (.int .u64 (s.v 5)), .val (.int .u64 (s.v 6)), .val (.int .u64 (s.v 7)), .val (.int .u64 (s.v 8))]
def gu (s : SnM) : Bool := ((kR s.w s.h s.ts && decide (s.f ≤ s.st)) && decide (s.st ≤ 4611686018427387904)) && vB s.v
theorem snC (s : SnM) : ((((wv (kR s.w s.h s.ts) 150 != 0) || decide (s.st < s.f)) || decide (4611686018427387904 < s.st)) || (wv (vB s.v) 230 != 0)) = !(gu s) := by
 rw [yH _ (by decide), yH _ (by decide)]
 unfold gu
 cases kR s.w s.h s.ts <;> cases vB s.v <;> simp <;> (rw [Bool.eq_iff_iff]; simp; try omega)
def wy (s t : SnM) : Bool := ((decide (s.w = t.w ∧ s.h = t.h ∧ s.ts = t.ts) && (s.f == t.f)) && (s.st == t.st)) && eqV s.v t.v
theorem yI (s : SnM) : DFun Tryz.prog 10 [.agg (snL s)] [] (.val (.int .i64 (wv (gu s) 310))) [] := by
 refine zap (N := 25) 0 (by kernel_rfl) Tryz.func10 rfl rfl rfl (by simp only [fr0, qbh, qbj]; exact rfl) rfl fun s0 hs0 => ?_
 refine zad ?_
 refine zam 1 ?_
 refine zac ?_
 refine zal rfl (qp 0 rfl (ev1 rfl) rfl) ?_
 refine zaa 1 rfl ?_
 refine zab ?_
 refine zad ?_
 refine zai ?_
 refine za rfl (zas rfl gM (ev1 rfl)) ?_
 refine za rfl (yP rfl gm (ev1 rfl) rfl rfl rfl) ?_
 refine za rfl (zak [] [] [] rfl (ev1 rfl) (ec (ev1 rfl) en) rfl rfl (YJ s.w s.h s.ts) rfl rfl rfl rfl rfl rfl) ?_
 refine za rfl (qV rfl (ev1 rfl) (ev1 rfl)) ?_
 refine zaa 1 rfl ?_
 refine zah (qa rfl rfl rfl) rfl rfl rfl (zas rfl yu (ev1 rfl)) ?_
 refine zah (qa rfl rfl rfl) rfl rfl rfl (zat rfl kC (ev2 rfl) rfl rfl) ?_
 refine zah (qa rfl rfl rfl) rfl rfl rfl (zas rfl yg (ev1 rfl)) ?_
 refine zah (qa rfl rfl rfl) rfl rfl rfl (zat rfl kC (ev2 rfl) rfl rfl) ?_
 refine zah (qa rfl rfl rfl) rfl rfl rfl (kg rfl (ev2 rfl) (ev2 rfl)) ?_
 refine za rfl (qK rfl (ev1 rfl) (ev3 rfl id)) ?_
 refine zaa 1 rfl ?_
 refine zah (qa rfl rfl rfl) rfl rfl rfl (zas rfl yg (ev1 rfl)) ?_
 refine zah (qa rfl rfl rfl) rfl rfl rfl (zat rfl kC (ev2 rfl) rfl rfl) ?_
 refine zah (qa rfl rfl rfl) rfl rfl rfl (kg rfl (ev2 rfl) (ev1 rfl)) ?_
 refine za rfl (qK rfl (ev1 rfl) (ev3 rfl id)) ?_
 refine zaa 1 rfl ?_
 refine zah (qa rfl rfl rfl) rfl rfl rfl (zas rfl yv (ev1 rfl)) ?_
 refine zah (qa rfl rfl rfl) rfl rfl rfl (vt (R := [_, _, _, _, _, _, _, _, _]) rfl jx (ev2 rfl) rfl rfl rfl) ?_
 refine zah (qa rfl rfl rfl) rfl rfl rfl (zak [] [] [] rfl (ev1 rfl) (ec (ev2 rfl) en) rfl rfl (xC s.v) rfl rfl rfl rfl rfl rfl) ?_
 refine zah (qa rfl rfl rfl) rfl rfl rfl (qV rfl (ev2 rfl) (ev1 rfl)) ?_
 refine za rfl (qK rfl (ev1 rfl) (ev3 rfl id)) ?_
 refine zab ?_
 refine qi rfl (fun c1 => ?_) (fun c1 => ?_)
 ·refine zai ?_
  refine zaa 1 rfl ?_
  refine zab ?_
  refine zau ?_
  refine qo (rs1 rfl (qB rfl)) rfl ?_
  have h : gu s = false := by
   rw [snC] at c1
   simpa using c1
  rw [h]
  rfl
 ·refine zao ?_
  refine zai ?_
  refine zaa 1 rfl ?_
  refine zab ?_
  refine zau ?_
  refine qo (rs1 rfl (qB rfl)) rfl ?_
  have h : gu s = true := by
   rw [snC] at c1
   simpa using c1
  rw [h]
  rfl
theorem zX (s t : SnM) : DFun Tryz.prog 11 [.agg (snL s), .agg (snL t)] [] (.val (.bool (wy s t))) [] := by
 refine zap (N := 31) 0 (by kernel_rfl) Tryz.func11 rfl rfl rfl (by simp only [fr0, qbh, qbj]; exact rfl) rfl fun s0 hs0 => ?_
 refine zad ?_
 refine zam 2 ?_
 refine zac ?_
 refine zal rfl (qp 0 rfl (ev1 rfl) rfl) ?_
 refine zal rfl (qp 1 rfl (ev1 rfl) rfl) ?_
 refine zaa 1 rfl ?_
 refine zab ?_
 refine zai ?_
 refine za rfl (zas rfl gM (ev1 rfl)) ?_
 refine za rfl (yP rfl gm (ev1 rfl) rfl rfl rfl) ?_
 refine za rfl (zas rfl gM (ev1 rfl)) ?_
 refine za rfl (yP rfl gm (ev1 rfl) rfl rfl rfl) ?_
 refine za rfl (zak [] [] [] rfl (ev1 rfl) (ec (ev1 rfl) (ec (ev1 rfl) en)) rfl rfl (Z3 s.w s.h t.w t.h s.ts t.ts) rfl rfl rfl rfl rfl rfl) ?_
 refine zaa 1 rfl ?_
 refine zah (qd rfl rfl rfl) rfl rfl rfl (zas rfl yu (ev1 rfl)) ?_
 refine zah (qd rfl rfl rfl) rfl rfl rfl (zat rfl kC (ev2 rfl) rfl rfl) ?_
 refine zah (qd rfl rfl rfl) rfl rfl rfl (zas rfl yu (ev1 rfl)) ?_
 refine zah (qd rfl rfl rfl) rfl rfl rfl (zat rfl kC (ev2 rfl) rfl rfl) ?_
 refine zah (qd rfl rfl rfl) rfl rfl rfl (qj rfl (ev2 rfl) (ev2 rfl)) ?_
 refine za rfl (qF rfl (ev1 rfl) (ev3 rfl id)) ?_
 refine zaa 1 rfl ?_
 refine zah (qd rfl rfl rfl) rfl rfl rfl (zas rfl yg (ev1 rfl)) ?_
 refine zah (qd rfl rfl rfl) rfl rfl rfl (zat rfl kC (ev2 rfl) rfl rfl) ?_
 refine zah (qd rfl rfl rfl) rfl rfl rfl (zas rfl yg (ev1 rfl)) ?_
 refine zah (qd rfl rfl rfl) rfl rfl rfl (zat rfl kC (ev2 rfl) rfl rfl) ?_
 refine zah (qd rfl rfl rfl) rfl rfl rfl (qj rfl (ev2 rfl) (ev2 rfl)) ?_
 refine za rfl (qF rfl (ev1 rfl) (ev3 rfl id)) ?_
 refine zaa 1 rfl ?_
 refine zah (qd rfl rfl rfl) rfl rfl rfl (zas rfl yv (ev1 rfl)) ?_
 refine zah (qd rfl rfl rfl) rfl rfl rfl (vt (R := [_, _, _, _, _, _, _, _, _]) rfl jx (ev2 rfl) rfl rfl rfl) ?_
 refine zah (qd rfl rfl rfl) rfl rfl rfl (zas rfl yv (ev1 rfl)) ?_
 refine zah (qd rfl rfl rfl) rfl rfl rfl (vt (R := [_, _, _, _, _, _, _, _, _]) rfl jx (ev2 rfl) rfl rfl rfl) ?_
 refine zah (qd rfl rfl rfl) rfl rfl rfl (jY eq27 rfl gd27 jx (ev2 rfl) (ev2 rfl)) ?_
 refine za rfl (qF rfl (ev1 rfl) (ev3 rfl id)) ?_
 refine zaa 1 rfl ?_
 refine zab ?_
 refine zau ?_
 refine qo (rs1 rfl (qB rfl)) rfl ?_
 rfl
theorem yC (s t : SnM) (hn : s.ts.length ≤ 5000) : DFun Tryz.prog 12 [.agg (snL s), .agg (snL t)] [] (.val (.bool (wy s t))) [] := by
 refine zap (N := 31) 0 (by kernel_rfl) Tryz.func12 rfl rfl rfl (by simp only [fr0, qbh, qbj]; exact rfl) rfl fun s0 hs0 => ?_
 refine zad ?_
 refine zam 2 ?_
 refine zac ?_
 refine zal rfl (qp 0 rfl (ev1 rfl) rfl) ?_
 refine zal rfl (qp 1 rfl (ev1 rfl) rfl) ?_
 refine zaa 1 rfl ?_
 refine zab ?_
 refine zai ?_
 refine za rfl (zas rfl yu (ev1 rfl)) ?_
 refine za rfl (zat rfl kC (ev1 rfl) rfl rfl) ?_
 refine za rfl (zas rfl yu (ev1 rfl)) ?_
 refine za rfl (zat rfl kC (ev1 rfl) rfl rfl) ?_
 refine za rfl (qj rfl (ev1 rfl) (ev1 rfl)) ?_
 refine zaa 1 rfl ?_
 refine zah (qd rfl rfl rfl) rfl rfl rfl (zas rfl yg (ev1 rfl)) ?_
 refine zah (qd rfl rfl rfl) rfl rfl rfl (zat rfl kC (ev2 rfl) rfl rfl) ?_
 refine zah (qd rfl rfl rfl) rfl rfl rfl (zas rfl yg (ev1 rfl)) ?_
 refine zah (qd rfl rfl rfl) rfl rfl rfl (zat rfl kC (ev2 rfl) rfl rfl) ?_
 refine zah (qd rfl rfl rfl) rfl rfl rfl (qj rfl (ev2 rfl) (ev2 rfl)) ?_
 refine za rfl (qF rfl (ev1 rfl) (ev3 rfl id)) ?_
 refine zaa 1 rfl ?_
 refine zah (qd rfl rfl rfl) rfl rfl rfl (zas rfl yv (ev1 rfl)) ?_
 refine zah (qd rfl rfl rfl) rfl rfl rfl (vt (R := [_, _, _, _, _, _, _, _, _]) rfl jx (ev2 rfl) rfl rfl rfl) ?_
 refine zah (qd rfl rfl rfl) rfl rfl rfl (zas rfl yv (ev1 rfl)) ?_
 refine zah (qd rfl rfl rfl) rfl rfl rfl (vt (R := [_, _, _, _, _, _, _, _, _]) rfl jx (ev2 rfl) rfl rfl rfl) ?_
 refine zah (qd rfl rfl rfl) rfl rfl rfl (jY eq27 rfl gd27 jx (ev2 rfl) (ev2 rfl)) ?_
 refine za rfl (qF rfl (ev1 rfl) (ev3 rfl id)) ?_
 refine zaa 1 rfl ?_
 refine zah (qd rfl rfl rfl) rfl rfl rfl (zas rfl gM (ev1 rfl)) ?_
 refine zah (qd rfl rfl rfl) rfl rfl rfl (yP rfl gm (ev2 rfl) rfl rfl rfl) ?_
 refine zah (qd rfl rfl rfl) rfl rfl rfl (zas rfl gM (ev1 rfl)) ?_
 refine zah (qd rfl rfl rfl) rfl rfl rfl (yP rfl gm (ev2 rfl) rfl rfl rfl) ?_
 refine zah (qd rfl rfl rfl) rfl rfl rfl (zak [] [] [] rfl (ev1 rfl) (ec (ev2 rfl) (ec (ev2 rfl) en)) rfl rfl (qak s.w s.h t.w t.h s.ts t.ts hn) rfl rfl rfl rfl rfl rfl) ?_
 refine za rfl (qF rfl (ev1 rfl) (ev3 rfl id)) ?_
 refine zaa 1 rfl ?_
 refine zab ?_
 refine zau ?_
 refine qo (rs1 rfl (qB rfl)) rfl ?_
 unfold wy
 generalize decide (s.w = t.w ∧ s.h = t.h ∧ s.ts = t.ts) = a
 generalize (s.f == t.f) = b
 generalize (s.st == t.st) = c
 generalize eqV s.v t.v = d
 cases a <;> cases b <;> cases c <;> cases d <;> rfl
end Go.Proofs.YtofklkbfkoliiaaGreat
namespace Go.Proofs.YtofklkbfkoliiaaGreat
set_option linter.unusedVariables false
set_option linter.unusedSimpArgs false
open Go.RowKit
attribute [local irreducible] tkN k6 kw kO yj qT kR
theorem kr : tyB Tryz.prog 29 = some (true, 14) := by kernel_rfl
abbrev VY (s : SnM) : List (List Int) := [kO 8 s.f ++ kO 8 s.st, yj s.v, qT s.w s.h s.ts]
def kG (s : SnM) : List Int := (VY s).flatten
theorem snOk_iff {s : SnM} : gu s = true ↔ kR s.w s.h s.ts = true ∧ s.f ≤ s.st ∧ s.st ≤ 4611686018427387904 ∧ vB s.v = true := by
 unfold gu
 simp only [qbi, decide_eq_true_eq, and_assoc]
theorem yh (v : Vec) : (yj v).length = 64 := by
 unfold yj
 exact zg (jT v)
theorem qaU (v : Vec) (hv : vB v = true) : DFun Tryz.prog 50 [.val (.agg (c9 v).toArray)] [] (.tup [.slf 1 (yj v).length ((yj v).flatMap uc8), .val (.int .i64 0)]) [] := gz (qaK v hv) rfl
theorem e8N : ((256 ^ 8 : Nat) : Int) = 18446744073709551616 := by decide
theorem gD {s : SnM} (h : kR s.w s.h s.ts = true) : (kG s).length = 80 + (qT s.w s.h s.ts).length ∧ (qT s.w s.h s.ts).length ≤ 5122 ∧ 3 ≤ (qT s.w s.h s.ts).length ∧ s.ts.length ≤ 16 := by
 have g := wq h
 have g2 := wg g.2.2.1
 have g3 := XQ s.w s.h s.ts
 unfold kG VY
 simp only [List.flatten_cons, List.flatten_nil, qbf, kP, yh, qbV]
 omega
theorem vZ (s : SnM) (h : gu s = true) (hf : 0 ≤ s.f)  : DFun Tryz.prog 13 [.agg (snL s)] [] (.tup [.slf 1 (kG s).length ((kG s).flatMap uc8), .val (.int .i64 0)]) [] := by
 obtain ⟨hr, hfs, hst, hv⟩ := snOk_iff.1 h
 obtain ⟨k1, k2, k3, k4⟩ := gD hr
 refine qA (N := 35) 0 (by kernel_rfl) Tryz.func13 rfl rfl rfl (by simp only [fr0, qbh, qbj]; exact rfl) rfl fun s0 hs0 => ?_
 refine qP rfl hs0 ?_
 refine zam 2 ?_
 refine zac ?_
 refine zal rfl (qp 0 rfl (ev1 rfl) rfl) ?_
 refine zaa 1 rfl ?_
 refine zal rfl (zan 1 rfl gB rfl) ?_
 refine zab ?_
 refine qD (l0 := [_]) rfl rfl rfl rfl rfl hs0 ?_
 refine za rfl (ki rfl en (ec (ev1 rfl) en)) ?_
 refine zab ⟨_, _, _, 2, ev1 rfl, qbE hs0 (by decide), rfl, ?_⟩
 have hs1 : s0.M.length ≤ 2 := qbE hs0 (by decide)
 refine qO rfl hs0 ?_
 refine zai ?_
 refine za rfl (qe rfl kr (ev1 rfl) rfl rfl) ?_
 refine za rfl (zak [] [] [] rfl (ev1 rfl) (ec (ev1 rfl) en) rfl rfl (yI s) rfl rfl rfl rfl rfl rfl) ?_
 refine za rfl (qj rfl (ev1 rfl) (ev1 rfl)) ?_
 refine za rfl (zak [] [] [] rfl (ev1 rfl) (ec (ev1 rfl) (ec (ev1 rfl) en)) rfl rfl (ky _ _ (by rw [h]; rfl)) rfl rfl rfl rfl rfl rfl) ?_
 refine zab ?_
 refine zai ?_
 refine za rfl (xk (ps := [(0, .const (.int .i64 8)), (1, .const (.int .i64 8))]) rfl uT zr3 rfl (vc (ev1 rfl) (vc (ev1 rfl) vn)) rfl (by decide) (by decide)) ?_
 refine za rfl (zas rfl yu (ev1 rfl)) ?_
 refine za rfl (zat rfl kC (ev1 rfl) rfl rfl) ?_
 refine za rfl (zas rfl yg (ev1 rfl)) ?_
 refine za rfl (zat rfl kC (ev1 rfl) rfl rfl) ?_
 refine za rfl (xk (ps := [(0, .tmp 12), (1, .tmp 14)]) rfl JL zr25 rfl (vc (ev1 rfl) (vc (ev1 rfl) vn)) rfl (by decide) (by decide)) ?_
 refine za rfl (zak [] [] [] rfl (ev1 rfl) (ec (ev1 rfl) (ec (ev1 rfl) en)) rfl rfl (Hv s.f s.st (by rw [e8N]; omega) (by rw [e8N]; omega)) rfl rfl rfl rfl rfl rfl) ?_
 refine zaa 2 rfl ?_
 refine za rfl (zak [] [] [] rfl (ev1 rfl) (ec (ev1 rfl) (ec (ev1 rfl) en)) rfl rfl (KY (kO 8 s.f ++ kO 8 s.st)) rfl rfl rfl rfl rfl rfl) ?_
 refine zaa 1 rfl ?_
 refine zab ?_
 refine zad ?_
 refine qh [([], []), ([], []), ([0], []), ([], []), ([], []), ([], []), ([], []), ([], []), ([0], []), ([], []), ([], []), ([], []), ([], []), ([], []), ([], []), ([], []), ([1], [1])] qJ (by kernel_rfl) ?_
 refine zae rfl rfl (zaj (.inl rfl) (ev1 rfl)) ?_
 refine zae rfl rfl (zas rfl yv (ev1 rfl)) ?_
 refine zae rfl rfl (vt (R := [_, _, _, _, _, _, _, _, _]) rfl jx (ev1 rfl) rfl rfl rfl) ?_
 refine zae rfl rfl (zak [] [] [] rfl (ev1 rfl) (ec (ev1 rfl) en) rfl rfl (qaU s.v hv) rfl rfl rfl rfl rfl rfl) ?_
 refine zae rfl rfl (jy rfl (ev1 rfl) rfl) ?_
 refine zae rfl rfl (jy rfl (ev1 rfl) rfl) ?_
 refine zae rfl rfl (zak [] [] [] rfl (ev1 rfl) (ec (ev1 rfl) (ec (ev1 rfl) en)) rfl rfl (KY (yj s.v)) rfl rfl rfl rfl rfl rfl) ?_
 refine zae rfl rfl (zas rfl gM (ev1 rfl)) ?_
 refine zae rfl rfl (yP rfl gm (ev1 rfl) rfl rfl rfl) ?_
 refine zae rfl rfl (zak [] [] [] rfl (ev1 rfl) (ec (ev1 rfl) en) rfl rfl (cnv_f s.w s.h s.ts hr (by omega)) rfl rfl rfl rfl rfl rfl) ?_
 refine zae rfl rfl (jy rfl (ev1 rfl) rfl) ?_
 refine zae rfl rfl (jy rfl (ev1 rfl) rfl) ?_
 refine zae rfl rfl (zak [] [] [] rfl (ev1 rfl) (ec (ev1 rfl) (ec (ev1 rfl) en)) rfl rfl (KY (qT s.w s.h s.ts)) rfl rfl rfl rfl rfl rfl) ?_
 refine zae rfl rfl (Uw (ps := [(0, .tmp 20), (1, .tmp 26), (2, .tmp 32)]) rfl g9 U9 rfl (ec (ev1 rfl) (ec (ev1 rfl) (ec (ev1 rfl) en))) rfl (by decide)) ?_
 refine zae rfl rfl (zak [] [] [] rfl (ev1 rfl) (ec (ev1 rfl) en) rfl rfl (Y7 (VY s) 3 _ rfl rfl (by show (kG s).length ≤ _; omega)) rfl rfl rfl rfl rfl rfl) ?_
 refine zae rfl rfl (zaj (.inr rfl) (ev1 rfl)) ?_
 refine jq rfl rfl (qN rfl kc (ev1 rfl) (ev1 rfl) rfl) rfl (by simp only [upd, zaf, zag]; exact rfl) ?_
 refine ql ?_
 refine zau ?_
 refine gq (kU [1] [] rfl rfl (GS _) rfl rfl rfl rfl rfl) ?_
 refine qo (rs2 rfl (qB rfl) (j4 kc rfl rfl rfl)) rfl ?_
 rfl
theorem zk (s : SnM) (h : gu s = false) : DFun Tryz.prog 13 [.agg (snL s)] [] (.tup [.val (.slice none 0 0), .val (.int .i64 310)]) [] := by
 refine qA (N := 35) 0 (by kernel_rfl) Tryz.func13 rfl rfl rfl (by simp only [fr0, qbh, qbj]; exact rfl) rfl fun s0 hs0 => ?_
 refine qP rfl hs0 ?_
 refine zam 2 ?_
 refine zac ?_
 refine zal rfl (qp 0 rfl (ev1 rfl) rfl) ?_
 refine zaa 1 rfl ?_
 refine zal rfl (zan 1 rfl gB rfl) ?_
 refine zab ?_
 refine qD (l0 := [_]) rfl rfl rfl rfl rfl hs0 ?_
 refine za rfl (ki rfl en (ec (ev1 rfl) en)) ?_
 refine zab ⟨_, _, _, 2, ev1 rfl, qbE hs0 (by decide), rfl, ?_⟩
 have hs1 : s0.M.length ≤ 2 := qbE hs0 (by decide)
 refine qO rfl hs0 ?_
 refine zai ?_
 refine za rfl (qe rfl kr (ev1 rfl) rfl rfl) ?_
 refine za rfl (zak [] [] [] rfl (ev1 rfl) (ec (ev1 rfl) en) rfl rfl (yI s) rfl rfl rfl rfl rfl rfl) ?_
 refine za rfl (qj rfl (ev1 rfl) (ev1 rfl)) ?_
 refine kz rfl (qQ [] [] [] rfl (ev1 rfl) (ec (ev1 rfl) (ec (ev1 rfl) en)) rfl rfl (yc _ _ (by rw [h]; rfl)) rfl rfl rfl rfl rfl rfl) rfl ?_
 refine gq (qZ [1] [] rfl rfl rfl (K1 _ _) rfl rfl rfl rfl rfl) ?_
 refine qo (rs2 rfl (qB rfl) (j4 kc rfl rfl rfl)) rfl ?_
 rfl
end Go.Proofs.YtofklkbfkoliiaaGreat
