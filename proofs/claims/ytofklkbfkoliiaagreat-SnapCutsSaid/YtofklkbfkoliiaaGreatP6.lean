/- taking: vectors; taking from the front of bytes; what laws say of bytes; what laws say of patches; what laws say of canvases read; errors by panics; numbers laid and got; rows put together; pieces and piles: which may be; piles that change; pieces put, one by one; piles: what putting makes of them; piles with a piece more; piles with pieces more; bytes cut in pieces; pieces gathered; the document: tiles that are read; snapshots: which may be, and are the same. No condition. -/
import Derived.Test.YtofklkbfkoliiaaGreatP5
import Derived.Test.YtofklkbfkoliiaaGreatRows
set_option maxRecDepth 4000
set_option maxHeartbeats 1000000
open List renaming getElem?_eq_getElem → qat, length_append → qaD, cons_append → qaE, nil_append → qaH, replicate → qaJ, flatMap_cons → qaL, length_replicate → qaS, length_take → qaT, length_cons → qaU, eq_nil_of_length_eq_zero → qaW, range → qaY, length_drop → qaZ, take_succ_eq_append_getElem → qa0, append_assoc → qa1, getD_eq_getElem?_getD → qa2, mem_cons_self → qa6, mem_cons_of_mem → qa9, getElem?_map → qbb, mem_of_getElem? → qbc, length_nil → qbd, getElem_mem → qbf, flatMap_append → qbg, append_nil → qbk
open Nat renaming zero_add → qau, reduceAdd → qaw, le_of_ble_eq_true → qaF, le_trans → qaM, le_refl → qaO, lt_of_succ_le → qa3, zero_le → qa5
open Bool renaming and_eq_true → qav, or_eq_false_iff → qax, not_eq_true' → qaz, not_eq_false' → qaA, or_eq_true → qaB
open Option.some renaming inj → qay
open Go.IntWalk renaming i64_in → qaC
open Int renaming not_lt → qaQ, not_le → qaR
namespace Go.Proofs.YtofklkbfkoliiaaGreat
set_option linter.unusedVariables false
set_option linter.unusedSimpArgs false
open Go.RowKit
attribute [local irreducible] tkN jK ky UA gO tkF UG wF Js
theorem Zt (o : OpM) (L : List Int) (hL : okL L) (v : Vec) (r : List Int) (h : vV L = .ok v r) : DFun Tryz.prog 95 [.loc 0 0] [.mix 178 (.loc 1 0 :: opD o), .mix 206 [.slf 1 (L).length ((L).flatMap uc8), .val (.int .i64 0)]] (.val (.agg (c9 v).toArray)) [.mix 178 (.loc 1 0 :: opD o), .mix 206 [.slf 1 (r).length ((r).flatMap uc8), .val (.int .i64 0)]] := by
 refine zap (N := 18) 2 (by kernel_rfl) Tryz.func95 rfl rfl rfl (by simp only [fr0, qau, qaw]; exact rfl) rfl fun s0 hs0 => ?_
 refine zae ?_
 rw [Jt] at h
 refine zam 1 ?_
 refine zac ?_
 refine zaj rfl (zan 2 rfl xA rfl) ?_
 refine zab ?_
 refine zae ?_
 refine zam 1 ?_
 refine zac ?_
 refine zaj rfl (zan 3 rfl xA rfl) ?_
 refine zab ?_
 refine zae ?_
 refine zah ?_
 refine zaa 1 rfl ?_
 refine zab ?_
 refine zas ?_
 refine qI ⟨hs0, rfl⟩ (α := Nat × Vec × List Int) (fun x => [(4, .val (.int .i64 ((x.1 + 1 : Nat) : Int)))]) [(0, _), (2, _), (3, _)] (fun x => [(1, .mix 206 [.slf 1 (x.2.2).length ((x.2.2).flatMap uc8), .val (.int .i64 0)]), (3, .flat 27 (c9 x.2.1))]) [_, .hole, _, .hole] (fun x => okL x.2.2 ∧ x.1 ≤ 8 ∧ wF (8 - x.1) x.2.1 x.2.2 = .ok v r) (fun x => 8 - x.1) (0, z9, L) [0, 1, 2, 3] (⟨hL, qa5 _, h⟩) rfl ⟨rfl, rfl, rfl, trivial⟩ ⟨rfl, trivial⟩ ⟨rfl, rfl, rfl, rfl, trivial⟩ ?_
 intro x hx
 simp only [upd, zad, zaf, qaE, qaH]
 obtain ⟨hk, hle, hy⟩ := hx
 refine zae ?_
 refine zah ?_
 refine zaa 1 rfl ?_
 refine za rfl (yD rfl (ev1 rfl) (ev1 rfl)) ?_
 refine zab ?_
 refine qe rfl (fun c1 => ?_) (fun c1 => ?_)
 ·try simp only [decide_eq_true_eq, decide_eq_false_iff_not, beq_iff_eq, bne_iff_ne, beq_eq_false_iff_ne, bne_eq_false_iff_eq, qaz, qaA, qav, qaB, qax, ne_eq, Decidable.not_not, qaQ, qaR] at c1
  refine zao ?_
  refine zae ?_
  refine zas ?_
  obtain ⟨n, q, hn, hz⟩ := Zm (by omega) hy
  have hn0 : 0 ≤ n := (QK hk hn).2.2.2.1.1
  refine zac ?_
  refine zaa 2 rfl ?_
  refine zaj rfl ((zai [0, 1] [] [] rfl (ev1 rfl) (ec (ev1 rfl) (ec (ev1 rfl) en)) rfl rfl (QL o (x.2.2) (hk) 8 (by decide) (n) (q) (hn)) rfl rfl rfl rfl rfl rfl).cast (d' := .val (.int .u64 ((n.toNat : Nat) : Int))) (by rw [Int.toNat_of_nonneg hn0])) ?_
  refine za rfl (Yk rfl ar27 (ev1 rfl) (ev1 rfl) (fun _ => by omega)) ?_
  refine zar rfl (Yl rfl ku (ev1 rfl) (ev1 rfl) rfl (by rw [WX]; omega) (Qw (j := x.1 + 1) (by omega) (by omega))) ?_
  refine zab ?_
  refine zac ?_
  refine zaa 1 rfl ?_
  refine za rfl (qh rfl (ev1 rfl) (ev1 rfl) (fun _ => qaC _ (by omega))) ?_
  refine zaa 1 rfl ?_
  refine zab ?_
  refine ⟨(x.1 + 1, upV x.2.1 (x.1 + 1) n.toNat, q), [0, 1, 2, 3], ⟨Hz hk hn, by show x.1 + 1 ≤ 8; omega, hz⟩, by show 8 - (x.1 + 1) < 8 - x.1; omega, rfl, ⟨rfl, rfl, rfl, rfl, trivial⟩, ⟨rfl, rfl, rfl, rfl, trivial⟩⟩
 ·try simp only [decide_eq_true_eq, decide_eq_false_iff_not, beq_iff_eq, bne_iff_ne, beq_eq_false_iff_ne, bne_eq_false_iff_eq, qaz, qaA, qav, qaB, qax, ne_eq, Decidable.not_not, qaQ, qaR] at c1
  refine qr ?_
  refine zae ?_
  obtain ⟨hvB, hxv, hxr⟩ := AY (by omega) hy
  rw [hxv, hxr]
  refine zac ?_
  refine za rfl (kv rfl gK (ev1 rfl) rfl rfl) ?_
  refine za rfl (zai [] [] [] rfl (ev1 rfl) (ec (ev1 rfl) en) rfl rfl (uJ v) rfl rfl rfl rfl rfl rfl) ?_
  refine za rfl (qv rfl (ev1 rfl) (ev1 rfl)) ?_
  refine za rfl (zai [] [] [] rfl (ev1 rfl) (ec (ev1 rfl) (ec (ev1 rfl) en)) rfl rfl (uQ _ _ (by rw [hvB]; rfl)) rfl rfl rfl rfl rfl rfl) ?_
  refine zab ?_
  refine zah ?_
  refine za rfl (kv rfl gK (ev1 rfl) rfl rfl) ?_
  refine zar rfl (qQ rfl gK (ev1 rfl) (ev1 rfl) rfl rfl rfl rfl) ?_
  refine zab ?_
  refine qb ?_
  refine qY [0, 1] (rs1 rfl (yM gK rfl rfl rfl)) rfl rfl ?_ ⟨rfl, rfl, trivial⟩
  rfl
theorem UK (o : OpM) (L : List Int) (hL : okL L) (e : Int) (h : vV L = .err e) : DPanL Tryz.prog 95 [.loc 0 0] [.mix 178 (.loc 1 0 :: opD o), .mix 206 [.slf 1 (L).length ((L).flatMap uc8), .val (.int .i64 0)]] (.ifc 203 (.val (.agg #[.int .i64 e]))) := by
 refine zap (N := 18) 2 (by kernel_rfl) Tryz.func95 rfl rfl rfl (by simp only [fr0, qau, qaw]; exact rfl) rfl fun s0 hs0 => ?_
 refine zae ?_
 rw [Jt] at h
 refine zam 1 ?_
 refine zac ?_
 refine zaj rfl (zan 2 rfl xA rfl) ?_
 refine zab ?_
 refine zae ?_
 refine zam 1 ?_
 refine zac ?_
 refine zaj rfl (zan 3 rfl xA rfl) ?_
 refine zab ?_
 refine zae ?_
 refine zah ?_
 refine zaa 1 rfl ?_
 refine zab ?_
 refine zas ?_
 refine qI ⟨hs0, rfl⟩ (α := Nat × Vec × List Int) (fun x => [(4, .val (.int .i64 ((x.1 + 1 : Nat) : Int)))]) [(0, _), (2, _), (3, _)] (fun x => [(1, .mix 206 [.slf 1 (x.2.2).length ((x.2.2).flatMap uc8), .val (.int .i64 0)]), (3, .flat 27 (c9 x.2.1))]) [_, .hole, _, .hole] (fun x => okL x.2.2 ∧ x.1 ≤ 8 ∧ wF (8 - x.1) x.2.1 x.2.2 = .err e) (fun x => 8 - x.1) (0, z9, L) [0, 1, 2, 3] (⟨hL, qa5 _, h⟩) rfl ⟨rfl, rfl, rfl, trivial⟩ ⟨rfl, trivial⟩ ⟨rfl, rfl, rfl, rfl, trivial⟩ ?_
 intro x hx
 simp only [upd, zad, zaf, qaE, qaH]
 obtain ⟨hk, hle, hy⟩ := hx
 refine zae ?_
 refine zah ?_
 refine zaa 1 rfl ?_
 refine za rfl (yD rfl (ev1 rfl) (ev1 rfl)) ?_
 refine zab ?_
 refine qe rfl (fun c1 => ?_) (fun c1 => ?_)
 ·try simp only [decide_eq_true_eq, decide_eq_false_iff_not, beq_iff_eq, bne_iff_ne, beq_eq_false_iff_ne, bne_eq_false_iff_eq, qaz, qaA, qav, qaB, qax, ne_eq, Decidable.not_not, qaQ, qaR] at c1
  refine zao ?_
  refine zae ?_
  refine zas ?_
  by_cases hs : ∃ n q, tN 8 x.2.2 = .ok n q ∧ wF (8 - (x.1 + 1)) (upV x.2.1 (x.1 + 1) n.toNat) q = .err e
  ·obtain ⟨n, q, hn, hz⟩ := hs
   have hn0 : 0 ≤ n := (QK hk hn).2.2.2.1.1
   refine zac ?_
   refine zaa 2 rfl ?_
   refine zaj rfl ((zai [0, 1] [] [] rfl (ev1 rfl) (ec (ev1 rfl) (ec (ev1 rfl) en)) rfl rfl (QL o (x.2.2) (hk) 8 (by decide) (n) (q) (hn)) rfl rfl rfl rfl rfl rfl).cast (d' := .val (.int .u64 ((n.toNat : Nat) : Int))) (by rw [Int.toNat_of_nonneg hn0])) ?_
   refine za rfl (Yk rfl ar27 (ev1 rfl) (ev1 rfl) (fun _ => by omega)) ?_
   refine zar rfl (Yl rfl ku (ev1 rfl) (ev1 rfl) rfl (by rw [WX]; omega) (Qw (j := x.1 + 1) (by omega) (by omega))) ?_
   refine zab ?_
   refine zac ?_
   refine zaa 1 rfl ?_
   refine za rfl (qh rfl (ev1 rfl) (ev1 rfl) (fun _ => qaC _ (by omega))) ?_
   refine zaa 1 rfl ?_
   refine zab ?_
   refine ⟨(x.1 + 1, upV x.2.1 (x.1 + 1) n.toNat, q), [0, 1, 2, 3], ⟨Hz hk hn, by show x.1 + 1 ≤ 8; omega, hz⟩, by show 8 - (x.1 + 1) < 8 - x.1; omega, rfl, ⟨rfl, rfl, rfl, rfl, trivial⟩, ⟨rfl, rfl, rfl, rfl, trivial⟩⟩
  ·have hn : tN 8 x.2.2 = .err e := by
    rcases Zn (by omega) hy with h1 | ⟨n, q, h1, h2⟩
    ·exact h1
    ·exact absurd ⟨n, q, h1, h2⟩ hs
   refine zac ?_
   refine zaa 2 rfl ?_
   refine qZ rfl (qE [0, 1] [] [] rfl (ev1 rfl) (ec (ev1 rfl) (ec (ev1 rfl) en)) rfl rfl (Zs o (x.2.2) (hk) 8 (by decide) (e) (hn)) rfl rfl rfl rfl rfl rfl) rfl ?_
   refine vf (Mo := [_, _]) [0, 1] rfl rfl ?_ ⟨rfl, rfl, trivial⟩ rfl
   rfl
 ·try simp only [decide_eq_true_eq, decide_eq_false_iff_not, beq_iff_eq, bne_iff_ne, beq_eq_false_iff_ne, bne_eq_false_iff_eq, qaz, qaA, qav, qaB, qax, ne_eq, Decidable.not_not, qaQ, qaR] at c1
  refine qr ?_
  refine zae ?_
  obtain ⟨hvB, rfl⟩ := Zo (by omega) hy
  refine zac ?_
  refine za rfl (kv rfl gK (ev1 rfl) rfl rfl) ?_
  refine za rfl (zai [] [] [] rfl (ev1 rfl) (ec (ev1 rfl) en) rfl rfl (uJ x.2.1) rfl rfl rfl rfl rfl rfl) ?_
  refine za rfl (qv rfl (ev1 rfl) (ev1 rfl)) ?_
  refine qZ rfl (qE [] [] [] rfl (ev1 rfl) (ec (ev1 rfl) (ec (ev1 rfl) en)) rfl rfl (GN _ _ (by rw [hvB]; rfl)) rfl rfl rfl rfl rfl rfl) rfl ?_
  refine vf (Mo := [_, _]) [0, 1] rfl rfl ?_ ⟨rfl, rfl, trivial⟩ rfl
  rfl
theorem Zu (o : OpM) (L : List Int) (hL : okL L) (e : Int) (h : vV L = .err e) : DPan Tryz.prog 95 [.loc 0 0] [.mix 178 (.loc 1 0 :: opD o), .mix 206 [.slf 1 (L).length ((L).flatMap uc8), .val (.int .i64 0)]] (.ifc 203 (.val (.agg #[.int .i64 e]))) [.gone, .gone] := (UK o L hL e h).dead
theorem GO (o : OpM) (L : List Int) (hL : okL L) (v : Vec) (r : List Int) (h : vV L = .ok v r) : DFun Tryz.prog 94 [.loc 0 0] [.mix 178 (.loc 1 0 :: opD o), .mix 206 [.slf 1 (L).length ((L).flatMap uc8), .val (.int .i64 0)]] (.val (.agg (c9 v).toArray)) [.mix 178 (.loc 1 0 :: opD o), .mix 206 [.slf 1 (r).length ((r).flatMap uc8), .val (.int .i64 0)]] := by
 refine zap (N := 5) 2 (by kernel_rfl) Tryz.func94 rfl rfl rfl (by simp only [fr0, qau, qaw]; exact rfl) rfl fun s0 hs0 => ?_
 refine zae ?_
 refine zam 1 ?_
 refine zac ?_
 refine zaj rfl (zan 2 rfl xA rfl) ?_
 refine zab ?_
 refine zah ?_
 refine zaa 1 rfl ?_
 refine zaj rfl (zai [0, 1] [] [] rfl (ev1 rfl) (ec (ev1 rfl) en) rfl rfl (Zt o L hL v r h) rfl rfl rfl rfl rfl rfl) ?_
 refine zar rfl (qQ rfl gK (ev1 rfl) (ev1 rfl) rfl rfl rfl rfl) ?_
 refine zab ?_
 refine qb ?_
 refine qY [0, 1] (rs1 rfl (yM gK rfl rfl rfl)) rfl rfl ?_ ⟨rfl, rfl, trivial⟩
 rfl
theorem Ju (o : OpM) (L : List Int) (hL : okL L) (e : Int) (hp : DPan Tryz.prog 95 [.loc 0 0] [.mix 178 (.loc 1 0 :: opD o), .mix 206 [.slf 1 (L).length ((L).flatMap uc8), .val (.int .i64 0)]] (.ifc 203 (.val (.agg #[.int .i64 e]))) [.gone, .gone]) : DPanL Tryz.prog 94 [.loc 0 0] [.mix 178 (.loc 1 0 :: opD o), .mix 206 [.slf 1 (L).length ((L).flatMap uc8), .val (.int .i64 0)]] (.ifc 203 (.val (.agg #[.int .i64 e]))) := by
 refine zap (N := 5) 2 (by kernel_rfl) Tryz.func94 rfl rfl rfl (by simp only [fr0, qau, qaw]; exact rfl) rfl fun s0 hs0 => ?_
 refine zae ?_
 refine zam 1 ?_
 refine zac ?_
 refine zaj rfl (zan 2 rfl xA rfl) ?_
 refine zab ?_
 refine zah ?_
 refine zaa 1 rfl ?_
 refine qZ rfl (qE [0, 1] [] [] rfl (ev1 rfl) (ec (ev1 rfl) en) rfl rfl (hp) rfl rfl rfl rfl rfl rfl) rfl ?_
 refine vf (Mo := [_, _]) [0, 1] rfl rfl ?_ ⟨rfl, rfl, trivial⟩ rfl
 rfl
theorem GP (o : OpM) (L : List Int) (hL : okL L) (e : Int) (h : vV L = .err e) : DPan Tryz.prog 94 [.loc 0 0] [.mix 178 (.loc 1 0 :: opD o), .mix 206 [.slf 1 (L).length ((L).flatMap uc8), .val (.int .i64 0)]] (.ifc 203 (.val (.agg #[.int .i64 e]))) [.gone, .gone] := (Ju o L hL e (Zu o L hL e h)).dead
end Go.Proofs.YtofklkbfkoliiaaGreat
namespace Go.Proofs.YtofklkbfkoliiaaGreat
set_option linter.unusedVariables false
set_option linter.unusedSimpArgs false
open Go.RowKit
attribute [local irreducible] tkN jK ky gO UB tkId GK UC
theorem wkZL {d : D} : WkL [d, .val (.int .u64 0), .val (.int .i64 0), .val (.int .u64 0), .val (.int .i64 0), .val (.int .i64 0), .val (.int .i64 0), .val (.int .i64 0), .val (.int .i64 0), .val (.int .i64 0), .val (.int .u8 0), .val (.int .u8 0), .val (.int .u8 0), .val (.int .u8 0), .val (.int .i64 0), .val (.int .i64 0), .val (.slice none 0 0), .val (.int .u64 0), .val (.int .i64 0), .val (.int .u64 0)] (d :: opD zO) :=
 WkL.cons (Wk.refl _) (WkL.cons (Wk.refl _) (WkL.cons (Wk.refl _) (WkL.cons (Wk.refl _) (WkL.cons (Wk.refl _) (WkL.cons (Wk.refl _) (WkL.cons (Wk.refl _) (WkL.cons (Wk.refl _) (WkL.cons (Wk.refl _) (WkL.cons (Wk.refl _) (WkL.cons (Wk.refl _) (WkL.cons (Wk.refl _) (WkL.cons (Wk.refl _) (WkL.cons (Wk.refl _) (WkL.cons (Wk.refl _) (WkL.cons (Wk.refl _) (WkL.cons (Wk.slf0 4) (WkL.cons (Wk.refl _) (WkL.cons (Wk.refl _) (WkL.cons (Wk.refl _) (WkL.nil))))))))))))))))))))
theorem UL (L : List Int) (e : Int) : DFun Tryz.prog 118 [.dpm [.slf 1 (L).length ((L).flatMap uc8), .val (.int .i64 e)]] [] (.val (.int .i64 (L.length : Int))) [] := by
 refine zap (N := 11) 0 (by kernel_rfl) Tryz.func118 rfl rfl rfl (by simp only [fr0, qau, qaw]; exact rfl) rfl fun s0 hs0 => ?_
 refine zah ?_
 refine zaa 1 rfl ?_
 refine zab ?_
 refine zae ?_
 refine zah ?_
 refine zaa 1 rfl ?_
 refine za rfl (Gb rfl QA (ev1 rfl)) ?_
 refine zab ?_
 refine qc rfl (rfl) ?_
 refine zao ?_
 refine zah ?_
 refine zaa 1 rfl ?_
 refine za rfl (qw rfl (ev1 rfl) (fun s v h => by cases h; exact ⟨_, rfl⟩)) ?_
 refine za rfl (xN rfl gm (ev1 rfl)) ?_
 refine za rfl (xN rfl wA (ev1 rfl)) ?_
 refine za rfl (gE rfl kC (ev1 rfl) rfl) ?_
 refine za rfl (qt rfl qu (ev1 rfl)) ?_
 refine zaa 1 rfl ?_
 refine zab ?_
 refine qb ?_
 refine qx (rs1 rfl (qJ rfl)) rfl ?_
 rfl
theorem GQ (e : Int) : DDef Tryz.prog 114 [.loc 0 0] [.flat 34 [.int .i64 e]] none none [.flat 34 [.int .i64 0]] := by
 refine k5 (dr := .tup []) (t := 1) (N := 3) 1 (by kernel_rfl) Tryz.func114 rfl rfl rfl (by simp only [fr0, qau, qaw]; exact rfl) rfl rfl rfl rfl rfl fun s0 hs0 => ?_
 refine za rfl (zai [] [] [] rfl (ev1 rfl) (ec (ev1 rfl) en) rfl rfl (UJ) rfl rfl rfl rfl rfl rfl) ?_
 refine zar rfl (qH rfl qT (ev1 rfl) (ev1 rfl) rfl) ?_
 refine zab ?_
 refine qY [0] (qF rfl) rfl rfl ?_ ⟨rfl, trivial⟩
 rfl
theorem z5 (e n : Int) : DDef Tryz.prog 114 [.loc 0 0] [.flat 34 [.int .i64 e]] (some (.ifc 203 (.val (.agg #[.int .i64 n])))) none [.flat 34 [.int .i64 n]] := by
 refine k5 (dr := .tup []) (t := 1) (N := 3) 1 (by kernel_rfl) Tryz.func114 rfl rfl rfl (by simp only [fr0, qau, qaw]; exact rfl) rfl rfl rfl rfl rfl fun s0 hs0 => ?_
 refine za rfl (zai [] [] [] rfl (ev1 rfl) (ec (ev1 rfl) en) rfl rfl (Zr n) rfl rfl rfl rfl rfl rfl) ?_
 refine zar rfl (qH rfl qT (ev1 rfl) (ev1 rfl) rfl) ?_
 refine zab ?_
 refine qY [0] (qF rfl) rfl rfl ?_ ⟨rfl, trivial⟩
 rfl
theorem UM (L : List Int) (hL : okL L) (h15 : L.length ≤ 32768) (v : Vec) (r : List Int) (h : vV L = .ok v r) (hr : r.length ≤ L.length) : DFun Tryz.prog 93 [.slf 1 (L).length ((L).flatMap uc8), .fn (.func 94) [] []] [] (.tup [.val (.agg (c9 v).toArray), .val (.int .i64 ((L.length : Int) - (r.length : Int))), .val (.int .i64 0)]) [] := by
 refine qj (N := 41) 0 (by kernel_rfl) Tryz.func93 rfl rfl rfl (by simp only [fr0, qau, qaw]; exact rfl) rfl fun s0 hs0 => ?_
 refine qD rfl hs0 ?_
 refine zam 2 ?_
 refine zac ?_
 refine zaj rfl (zan 0 rfl xA rfl) ?_
 refine zaa 1 rfl ?_
 refine zaj rfl (zan 1 rfl jO rfl) ?_
 refine zab ?_
 refine qn (l0 := [_]) rfl rfl rfl rfl rfl hs0 ?_
 refine za rfl (qV rfl en (ec (ev1 rfl) en)) ?_
 refine zab ⟨_, _, _, 2, ev1 rfl, qaM hs0 (by decide), rfl, ?_⟩
 have hs1 : s0.M.length ≤ 2 := qaM hs0 (by decide)
 refine qC rfl hs0 ?_
 refine zah ?_
 refine zaa 1 rfl ?_
 refine za rfl (qt rfl qu (ev1 rfl)) ?_
 refine za rfl ((yF rfl (ev1 rfl) (ev1 rfl)).cast (d' := .val (.int .i64 (L.length : Int))) (by congr 2; omega)) ?_
 refine zaa 1 rfl ?_
 refine zab ?_
 refine zae ?_
 refine zam 1 ?_
 refine zac ?_
 refine zaa 3 rfl ?_
 refine za rfl ((Qa (j := L.length) rfl qu (ev1 rfl) (ev1 rfl) (ev1 rfl) (fun hp => by first | omega | (simp at hp; omega)) (fun hp => by first | omega | (simp at hp; omega)) (fun hp => by first | omega | (simp at hp; omega)) (fun _ => rfl)).cast (d' := .slf 1 (L).length ((L).flatMap uc8)) (by rw [List.take_length])) ?_
 refine zaj rfl (zai [] [] [2] rfl (ev1 rfl) (ec (ev1 rfl) en) rfl rfl (QI L (by have := hL.2; omega)) rfl rfl rfl rfl rfl rfl) ?_
 refine zaa 4 rfl ?_
 refine zar rfl (qH rfl qT (ev1 rfl) (ev1 rfl) rfl) ?_
 refine zab ?_
 refine zah ?_
 refine za rfl (qi rfl qT (ev1 rfl) rfl rfl) ?_
 refine za rfl (qv rfl (ev1 rfl) (ev1 rfl)) ?_
 refine za rfl (qi rfl qT (ev1 rfl) rfl rfl) ?_
 refine za rfl (zai [] [] [] rfl (ev1 rfl) (ec (ev1 rfl) (ec (ev1 rfl) en)) rfl rfl (uQ _ _ (rfl)) rfl rfl rfl rfl rfl rfl) ?_
 refine zab ?_
 refine zae ?_
 refine zam 1 ?_
 refine zac ?_
 refine zaa 1 rfl ?_
 refine za rfl ((kX (ps := [(0, .tmp 27)]) rfl Hh Hp (ec (ev1 rfl) en) rfl rfl rfl).cast (d' := .agg [.loc 2 0, .val (.int .u64 0), .val (.int .i64 0), .val (.int .u64 0), .val (.int .i64 0), .val (.int .i64 0), .val (.int .i64 0), .val (.int .i64 0), .val (.int .i64 0), .val (.int .i64 0), .val (.int .u8 0), .val (.int .u8 0), .val (.int .u8 0), .val (.int .u8 0), .val (.int .i64 0), .val (.int .i64 0), .val (.slice none 0 0), .val (.int .u64 0), .val (.int .i64 0), .val (.int .u64 0)]) (by kernel_rfl)) ?_
 refine zaj rfl (qG 3 rfl (ev1 rfl) rfl) ?_
 refine zaa 1 rfl ?_
 refine zab ?_
 refine zae ?_
 refine jf 3 (Yz wkZL) rfl rfl (by simp only [qaE, qaH, zad, zaf, List.map]; exact rfl) ?_
 refine zam 1 ?_
 refine zac ?_
 refine zaa 2 rfl ?_
 refine zaj rfl (zai [3, 2] [] [] rfl (ev1 rfl) (ec (ev1 rfl) en) rfl rfl (GO zO L hL v r h) rfl rfl rfl rfl rfl rfl) ?_
 refine zaj rfl (zan 4 rfl xA rfl) ?_
 refine zar rfl (qQ rfl gK (ev1 rfl) (ev1 rfl) rfl rfl rfl rfl) ?_
 refine zab ?_
 refine zae ?_
 refine qg [([4], []), ([], []), ([], []), ([], []), ([], []), ([3], []), ([2], []), ([], []), ([0], [0]), ([], []), ([1], [1])] qU (by kernel_rfl) ?_
 refine zag rfl rfl (kv rfl gK (ev1 rfl) rfl rfl) ?_
 refine zag rfl rfl (zal (.inl rfl) (ev1 rfl)) ?_
 refine zag rfl rfl (zal (.inl rfl) (ev1 rfl)) ?_
 refine zag rfl rfl (qw rfl (ev1 rfl) (fun s v h => by cases h; exact ⟨_, rfl⟩)) ?_
 refine zag rfl rfl (qa rfl vH (ev1 rfl)) ?_
 refine zag rfl rfl (zaq rfl gj (ev1 rfl) rfl rfl) ?_
 refine zag rfl rfl (zai [] [2] [] rfl (ev1 rfl) (ec (ev1 rfl) en) rfl rfl (UL r 0) rfl rfl rfl rfl rfl rfl) ?_
 refine zag rfl rfl (jJ rfl (ev1 rfl) (ev1 rfl) (fun _ => qaC _ (by omega))) ?_
 refine gt rfl rfl (qQ rfl gK (ev1 rfl) (ev1 rfl) rfl rfl rfl rfl) rfl (by simp only [upd, zad, zaf]; exact rfl) ?_
 refine zag rfl rfl (zal (.inr rfl) (ev1 rfl)) ?_
 refine gt rfl rfl (qH rfl qT (ev1 rfl) (ev1 rfl) rfl) rfl (by simp only [upd, zad, zaf]; exact rfl) ?_
 refine qp ?_
 refine qb ?_
 refine jI (kF [1] [] rfl rfl (GQ _) rfl rfl rfl rfl rfl) ?_
 refine qx (rs3 rfl (yM gK rfl rfl rfl) (qJ rfl) (js qT rfl rfl rfl)) rfl ?_
 rfl
theorem VM (L : List Int) (hL : okL L) (h15 : L.length ≤ 32768) (e : Int) (hp : DPan Tryz.prog 94 [.loc 0 0] [.mix 178 (.loc 1 0 :: opD zO), .mix 206 [.slf 1 (L).length ((L).flatMap uc8), .val (.int .i64 0)]] (.ifc 203 (.val (.agg #[.int .i64 e]))) [.gone, .gone]) : DFun Tryz.prog 93 [.slf 1 (L).length ((L).flatMap uc8), .fn (.func 94) [] []] [] (.tup [.val (.agg (c9 z9).toArray), .val (.int .i64 0), .val (.int .i64 e)]) [] := by
 refine qj (N := 41) 0 (by kernel_rfl) Tryz.func93 rfl rfl rfl (by simp only [fr0, qau, qaw]; exact rfl) rfl fun s0 hs0 => ?_
 refine qD rfl hs0 ?_
 refine zam 2 ?_
 refine zac ?_
 refine zaj rfl (zan 0 rfl xA rfl) ?_
 refine zaa 1 rfl ?_
 refine zaj rfl (zan 1 rfl jO rfl) ?_
 refine zab ?_
 refine qn (l0 := [_]) rfl rfl rfl rfl rfl hs0 ?_
 refine za rfl (qV rfl en (ec (ev1 rfl) en)) ?_
 refine zab ⟨_, _, _, 2, ev1 rfl, qaM hs0 (by decide), rfl, ?_⟩
 have hs1 : s0.M.length ≤ 2 := qaM hs0 (by decide)
 refine qC rfl hs0 ?_
 refine zah ?_
 refine zaa 1 rfl ?_
 refine za rfl (qt rfl qu (ev1 rfl)) ?_
 refine za rfl ((yF rfl (ev1 rfl) (ev1 rfl)).cast (d' := .val (.int .i64 (L.length : Int))) (by congr 2; omega)) ?_
 refine zaa 1 rfl ?_
 refine zab ?_
 refine zae ?_
 refine zam 1 ?_
 refine zac ?_
 refine zaa 3 rfl ?_
 refine za rfl ((Qa (j := L.length) rfl qu (ev1 rfl) (ev1 rfl) (ev1 rfl) (fun hp => by first | omega | (simp at hp; omega)) (fun hp => by first | omega | (simp at hp; omega)) (fun hp => by first | omega | (simp at hp; omega)) (fun _ => rfl)).cast (d' := .slf 1 (L).length ((L).flatMap uc8)) (by rw [List.take_length])) ?_
 refine zaj rfl (zai [] [] [2] rfl (ev1 rfl) (ec (ev1 rfl) en) rfl rfl (QI L (by have := hL.2; omega)) rfl rfl rfl rfl rfl rfl) ?_
 refine zaa 4 rfl ?_
 refine zar rfl (qH rfl qT (ev1 rfl) (ev1 rfl) rfl) ?_
 refine zab ?_
 refine zah ?_
 refine za rfl (qi rfl qT (ev1 rfl) rfl rfl) ?_
 refine za rfl (qv rfl (ev1 rfl) (ev1 rfl)) ?_
 refine za rfl (qi rfl qT (ev1 rfl) rfl rfl) ?_
 refine za rfl (zai [] [] [] rfl (ev1 rfl) (ec (ev1 rfl) (ec (ev1 rfl) en)) rfl rfl (uQ _ _ (rfl)) rfl rfl rfl rfl rfl rfl) ?_
 refine zab ?_
 refine zae ?_
 refine zam 1 ?_
 refine zac ?_
 refine zaa 1 rfl ?_
 refine za rfl ((kX (ps := [(0, .tmp 27)]) rfl Hh Hp (ec (ev1 rfl) en) rfl rfl rfl).cast (d' := .agg [.loc 2 0, .val (.int .u64 0), .val (.int .i64 0), .val (.int .u64 0), .val (.int .i64 0), .val (.int .i64 0), .val (.int .i64 0), .val (.int .i64 0), .val (.int .i64 0), .val (.int .i64 0), .val (.int .u8 0), .val (.int .u8 0), .val (.int .u8 0), .val (.int .u8 0), .val (.int .i64 0), .val (.int .i64 0), .val (.slice none 0 0), .val (.int .u64 0), .val (.int .i64 0), .val (.int .u64 0)]) (by kernel_rfl)) ?_
 refine zaj rfl (qG 3 rfl (ev1 rfl) rfl) ?_
 refine zaa 1 rfl ?_
 refine zab ?_
 refine zae ?_
 refine jf 3 (Yz wkZL) rfl rfl (by simp only [qaE, qaH, zad, zaf, List.map]; exact rfl) ?_
 refine zam 1 ?_
 refine zac ?_
 refine zaa 2 rfl ?_
 refine qZ rfl (qE [3, 2] [] [] rfl (ev1 rfl) (ec (ev1 rfl) en) rfl rfl (hp) rfl rfl rfl rfl rfl rfl) rfl ?_
 refine jI (qL [1] [] rfl rfl rfl (z5 _ _) rfl rfl rfl rfl rfl) ?_
 refine qx (rs3 rfl (yM gK rfl rfl rfl) (qJ rfl) (js qT rfl rfl rfl)) rfl ?_
 rfl
theorem y7 (L : List Int) (hL : okL L) (h15 : L.length ≤ 32768) (v : Vec) (r : List Int) (h : vV L = .ok v r) (hr : r.length ≤ L.length) : DFun Tryz.prog 58 [.slf 1 (L).length ((L).flatMap uc8)] [] (.tup [.val (.agg (c9 v).toArray), .val (.int .i64 ((L.length : Int) - (r.length : Int))), .val (.int .i64 0)]) [] := by
 refine zap (N := 10) 0 (by kernel_rfl) Tryz.func58 rfl rfl rfl (by simp only [fr0, qau, qaw]; exact rfl) rfl fun s0 hs0 => ?_
 refine kG (t := 0) rfl fun hl0 hL0 => ?_
 refine zae ?_
 refine zam 1 ?_
 refine zac ?_
 refine zaj rfl (zan 0 rfl xA rfl) ?_
 refine zaa 2 rfl ?_
 refine zab ?_
 refine zah ?_
 refine zaa 1 rfl ?_
 refine za rfl (zai [] [] [] rfl (ev1 rfl) (ec (ev1 rfl) (ec (ev1 rfl) en)) rfl rfl (UM L hL h15 v r h hr) rfl rfl rfl rfl rfl rfl) ?_
 refine zaa 3 rfl ?_
 refine zar rfl (qQ rfl gK (ev1 rfl) (ev1 rfl) rfl rfl rfl rfl) ?_
 refine zaa 2 rfl ?_
 refine zab ?_
 refine qb ?_
 refine qx (rs3 rfl (yM gK rfl rfl rfl) (qJ rfl) (qJ rfl)) rfl ?_
 rfl
theorem zJ (L : List Int) (hL : okL L) (h15 : L.length ≤ 32768) (e : Int) (hp : DPan Tryz.prog 94 [.loc 0 0] [.mix 178 (.loc 1 0 :: opD zO), .mix 206 [.slf 1 (L).length ((L).flatMap uc8), .val (.int .i64 0)]] (.ifc 203 (.val (.agg #[.int .i64 e]))) [.gone, .gone]) : DFun Tryz.prog 58 [.slf 1 (L).length ((L).flatMap uc8)] [] (.tup [.val (.agg (c9 z9).toArray), .val (.int .i64 0), .val (.int .i64 e)]) [] := by
 refine zap (N := 10) 0 (by kernel_rfl) Tryz.func58 rfl rfl rfl (by simp only [fr0, qau, qaw]; exact rfl) rfl fun s0 hs0 => ?_
 refine kG (t := 0) rfl fun hl0 hL0 => ?_
 refine zae ?_
 refine zam 1 ?_
 refine zac ?_
 refine zaj rfl (zan 0 rfl xA rfl) ?_
 refine zaa 2 rfl ?_
 refine zab ?_
 refine zah ?_
 refine zaa 1 rfl ?_
 refine za rfl (zai [] [] [] rfl (ev1 rfl) (ec (ev1 rfl) (ec (ev1 rfl) en)) rfl rfl (VM L hL h15 e hp) rfl rfl rfl rfl rfl rfl) ?_
 refine zaa 3 rfl ?_
 refine zar rfl (qQ rfl gK (ev1 rfl) (ev1 rfl) rfl rfl rfl rfl) ?_
 refine zaa 2 rfl ?_
 refine zab ?_
 refine qb ?_
 refine qx (rs3 rfl (yM gK rfl rfl rfl) (qJ rfl) (qJ rfl)) rfl ?_
 rfl
theorem z6 (L : List Int) (hL : okL L) (h15 : L.length ≤ 32768) (e : Int) (h : vV L = .err e) : DFun Tryz.prog 58 [.slf 1 (L).length ((L).flatMap uc8)] [] (.tup [.val (.agg (c9 z9).toArray), .val (.int .i64 0), .val (.int .i64 e)]) [] := zJ L hL h15 e (GP zO L hL e h)
end Go.Proofs.YtofklkbfkoliiaaGreat
namespace Go.Proofs.YtofklkbfkoliiaaGreat
set_option linter.unusedVariables false
set_option linter.unusedSimpArgs false
open Go.RowKit
def C4.rng (c : C4) : Prop := (0 ≤ c.r ∧ c.r ≤ 255) ∧ (0 ≤ c.g ∧ c.g ≤ 255) ∧ (0 ≤ c.b ∧ c.b ≤ 255) ∧ 0 ≤ c.a ∧ c.a ≤ 255
theorem VN (t : TL) : 0 < (gy t).length := by
 obtain ⟨n, _, bs, e⟩ := xv t
 rw [e]; simp
theorem VO {t : TL} (ht : ∀ c ∈ t.l, c.rng) : isB (gy t) := by
 intro z hz
 unfold gy kZ at hz
 obtain ⟨r, hr, hz⟩ := List.mem_flatMap.1 hz
 have hc : r.2 ∈ t.l := by
  rw [← jF t.l]
  unfold kN
  refine List.mem_flatMap.2 ⟨r, hr, ?_⟩
  have := gw (yA t.l) r hr
  exact List.mem_replicate.2 ⟨by omega, rfl⟩
 have hn : r.1 ≤ 64 := by
  have h1 : (qaJ r.1 r.2).length ≤ (kN (kz t.l)).length := by
   obtain ⟨i, hi, rfl⟩ := List.getElem_of_mem hr
   have := QD hi
   rw [qaS]; omega
  rw [jF, t.h, qaS] at h1
  exact h1
 have hr2 := ht _ hc
 unfold C4.rng at hr2
 unfold Gu at hz
 simp only [List.mem_cons, List.not_mem_nil, or_false] at hz
 rcases hz with rfl | rfl | rfl | rfl | rfl <;> omega
theorem Zv {a b : List Int} (ha : isB a) (hb : isB b) : isB (a ++ b) := fun z hz => (List.mem_append.1 hz).elim (ha z) (hb z)
theorem UN {a : List Int} (ha : isB a) (n : Nat) : isB (a.take n) := fun z hz => ha z (List.mem_of_mem_take hz)
end Go.Proofs.YtofklkbfkoliiaaGreat
namespace Go.Proofs.YtofklkbfkoliiaaGreat
set_option linter.unusedVariables false
set_option linter.unusedSimpArgs false
open Go.RowKit
def QM (ts : List TL) : Prop := ∀ t ∈ ts, ∀ c ∈ t.l, c.rng
theorem zK {kn : List TL → TL} : ∀ {ts acc : List TL}, QM ts → isB (qR kn acc ts)
 | [], _, _ => by rw [w7]; intro z hz; cases hz
 | t :: ts, acc, h => by
  rw [qR]
  refine Zv ?_ (zK fun u hu => h u (qa9 _ hu))
  split
  ·intro z hz; simp at hz; subst hz; decide
  ·exact VO (h t (qa6 ..))
theorem Jv {w h : Int} {ts : List TL} (hr : jd w h ts = true) : w * h = (ts.length : Int) ∧ ts.length ≤ 16 ∧ gN w h = true ∧ (1 ≤ w ∧ w ≤ 4) ∧ 1 ≤ h ∧ h ≤ 4 := by
 have hm := KK hr
 have hb := wh hm
 have hc := Jj hm
 unfold jd at hr
 rw [qav] at hr
 have := of_decide_eq_true hr.2
 exact ⟨by omega, by omega, hm, by omega, by omega⟩
theorem VP (kn : List TL → TL) (w h : Int) (ts : List TL) (rest : List Int) : gc kn ((w :: h :: qR kn [] ts) ++ rest) ts.length [] 2 = some (ts, (w :: h :: qR kn [] ts).length) := by
 have e := xS kn ((w :: h :: qR kn [] ts) ++ rest) ts.length [] 2 (by simp)
 have e1 : ((w :: h :: qR kn [] ts) ++ rest).drop 2 = qR kn [] ts ++ rest := rfl
 rw [e1, xe] at e
 cases hx : gc kn ((w :: h :: qR kn [] ts) ++ rest) ts.length [] 2 with
 | none => rw [hx] at e; cases e
 | some x =>
  obtain ⟨l, q⟩ := x
  obtain ⟨_, _, h3⟩ := uM (by simp) hx
  rw [hx] at e
  have e : some ([] ++ ts, rest) = some (l, ((w :: h :: qR kn [] ts) ++ rest).drop q) := e
  obtain ⟨g1, g2⟩ := Prod.mk.inj (qay e)
  have := congrArg List.length g2
  rw [qaZ] at this
  rw [qaD] at h3 this
  rw [show q = (w :: h :: qR kn [] ts).length by omega, ← g1]
  rfl
end Go.Proofs.YtofklkbfkoliiaaGreat
namespace Go.Proofs.YtofklkbfkoliiaaGreat
set_option linter.unusedVariables false
set_option linter.unusedSimpArgs false
open Go.RowKit
theorem YR {kn : List TL → TL} {B : List Int} {n : Nat} {us : List TL} {q : Nat} (h2 : 2 ≤ B.length) (h : gc kn B n [] 2 = some (us, q)) : us.length = n ∧ B.drop 2 = qR kn [] us ++ B.drop q ∧ q ≤ B.length := by
 have e := xS kn B n [] 2 h2
 rw [h] at e
 obtain ⟨ts, g1, g2, g3⟩ := rdTs_iff.1 (show z4 kn n [] (B.drop 2) = some (us, B.drop q) from e)
 rw [qaH] at g2
 subst g2
 exact ⟨g1, g3, (uM h2 h).2.2⟩
theorem YS {kn : List TL → TL} {B : List Int} {n : Nat} {us : List TL} {q : Nat} (h2 : 2 ≤ B.length) (h : gc kn B n [] 2 = some (us, q)) : B.take q = bAt B 0 :: bAt B 1 :: qR kn [] us ∧ q = (bAt B 0 :: bAt B 1 :: qR kn [] us).length := by
 obtain ⟨_, g2, g3⟩ := YR h2 h
 have hB : B = (bAt B 0 :: bAt B 1 :: qR kn [] us) ++ B.drop q := by
  have h0 : B = bAt B 0 :: bAt B 1 :: B.drop 2 := by
   have h1 := je (B := B) (p := 0) (by omega)
   rw [je (p := 0 + 1) (by omega)] at h1
   exact h1
  rw [qaE, qaE, ← g2]
  exact h0
 have hl := congrArg List.length hB
 rw [qaD, qaZ] at hl
 have hq : q = (bAt B 0 :: bAt B 1 :: qR kn [] us).length := by omega
 refine ⟨?_, hq⟩
 have h1 := congrArg (List.take q) hB
 rw [h1, hq, List.take_left']
 rfl
theorem VQ {B : List Int} {n : Nat} {us : List TL} {q : Nat} (h2 : 2 ≤ B.length) (h : gc q9 B n [] 2 = some (us, q)) : B.take q = kD (bAt B 0) (bAt B 1) us := (YS h2 h).1
theorem KN (kn : List TL → TL) : ∀ (ts acc : List TL), ts.length ≤ (qR kn acc ts).length
 | [], _ => by rw [w7]; exact qaO _
 | t :: ts, acc => by
  have h1 := KN kn ts (acc ++ [t])
  have h2 := VN t
  rw [qR, qaD, qaU]
  split
  ·simp; omega
  ·omega
theorem UO (a b : Int) (ts : List TL) : 2 + ts.length ≤ (kD a b ts).length ∧ (kD a b ts).length ≤ 2 + ts.length * 320 := by
 have h1 := KN q9 ts []
 have h2 := w6 q9 ts []
 have hl : (kD a b ts).length = (qR q9 [] ts).length + 2 := rfl
 omega
theorem UP {a b : Int} {ts : List TL} (hr : jd a b ts = true) (h : QM ts) : isB (kD a b ts) := by
 obtain ⟨_, _, _, h1, h2⟩ := Jv hr
 intro z hz
 rcases List.mem_cons.1 (show z ∈ a :: b :: qR q9 [] ts from hz) with rfl | hz
 ·omega
 rcases List.mem_cons.1 hz with rfl | hz
 ·omega
 exact zK h z hz
def UQ (B : List Int) : Prop := ¬ (0 + 2 ≤ B.length ∧ gN (bAt B 0) (bAt B 1) = true ∧ (gc q9 B (bAt B 0 * bAt B 1).toNat [] 2).isSome = true)
theorem UR {w h : Int} (hm : gN w h = true) : w * h = ((w * h).toNat : Int) ∧ (w * h).toNat ≤ 16 := by
 have := wh hm
 omega
theorem A3 (B : List Int) (hB : B.length ≤ 4000000000000000000) (hi : isB B) (hx : UQ B) : DFun Tryz.prog 59 [.slf 1 (B).length ((B).flatMap uc8)] [] (.tup [.val (.agg #[.int .i64 0, .int .i64 0, .slice none 0 0]), .val (.int .i64 0), .val (.int .i64 200)]) [] := by
 by_cases h2 : 0 + 2 ≤ B.length
 ·cases hm : gN (bAt B 0) (bAt B 1) with
  | false => exact AI B hB hi h2 hm
  | true =>
   cases h0 : gc q9 B (bAt B 0 * bAt B 1).toNat [] 2 with
   | none => exact AG B hB hi _ h2 hm (UR hm).1 h0
   | some x => exact absurd ⟨h2, hm, by rw [h0]; rfl⟩ hx
 ·exact AH B hB hi h2
end Go.Proofs.YtofklkbfkoliiaaGreat
namespace Go.Proofs.YtofklkbfkoliiaaGreat
set_option linter.unusedVariables false
set_option linter.unusedSimpArgs false
open Go.RowKit
attribute [local irreducible] tkN jK ky
theorem fl125 : fdL Tryz.prog 125 = some [(0, 1)] := by kernel_rfl
theorem Zw : fdO Tryz.prog 125 0 = some 0 := by kernel_rfl
theorem US : niF Tryz.prog 125 = true := by kernel_rfl
theorem HA : tyB Tryz.prog 125 = some (true, 1) := by kernel_rfl
theorem HB : tyB Tryz.prog 150 = some (true, 2) := by kernel_rfl
theorem UT : zrC Tryz.prog 125 = some [.int .i64 0] := by kernel_rfl
theorem zv125 : zrV Tryz.prog 125 = some (.agg #[.int .i64 0]) := by kernel_rfl
theorem yI : DFun Tryz.prog 46 [.val .nilIface] [] (.val (.int .i64 0)) [] := by
 refine zap (N := 13) 0 (by kernel_rfl) Tryz.func46 rfl rfl rfl (by simp only [fr0, qau, qaw]; exact rfl) rfl fun s0 hs0 => ?_
 refine zah ?_
 refine zaa 1 rfl ?_
 refine zab ?_
 refine zae ?_
 refine zae ?_
 refine zam 1 ?_
 refine zac ?_
 refine zaa 1 rfl ?_
 refine za rfl (K5 rfl US zv125 (ev1 rfl)) ?_
 refine zaa 3 rfl ?_
 refine zaj rfl (zan 0 rfl UT rfl) ?_
 refine zar rfl (qQ rfl HA (ev1 rfl) (ev1 rfl) rfl rfl rfl rfl) ?_
 refine zaa 1 rfl ?_
 refine zab ?_
 refine zah ?_
 refine zaa 1 rfl ?_
 refine zab ?_
 refine qc rfl (rfl) ?_
 refine zao ?_
 refine zah ?_
 refine zaa 1 rfl ?_
 refine zab ?_
 refine qb ?_
 refine qx (rs1 rfl (qJ rfl)) rfl ?_
 rfl
theorem wB (n : Int) : DFun Tryz.prog 46 [.ifc 125 (.val (.agg #[.int .i64 n]))] [] (.val (.int .i64 n)) [] := by
 refine zap (N := 13) 0 (by kernel_rfl) Tryz.func46 rfl rfl rfl (by simp only [fr0, qau, qaw]; exact rfl) rfl fun s0 hs0 => ?_
 refine zah ?_
 refine zaa 1 rfl ?_
 refine zab ?_
 refine zae ?_
 refine zae ?_
 refine zam 1 ?_
 refine zac ?_
 refine zaa 1 rfl ?_
 refine za rfl (K4 rfl US (ev1 rfl)) ?_
 refine zaa 3 rfl ?_
 refine zaj rfl (zan 0 rfl UT rfl) ?_
 refine zar rfl (qQ rfl HA (ev1 rfl) (ev1 rfl) rfl rfl rfl rfl) ?_
 refine zaa 1 rfl ?_
 refine zab ?_
 refine zah ?_
 refine zaa 1 rfl ?_
 refine zab ?_
 refine qM rfl (rfl) ?_
 refine zah ?_
 refine za rfl (qa rfl Zw (ev1 rfl)) ?_
 refine za rfl (qi rfl qT (ev1 rfl) rfl rfl) ?_
 refine zaa 1 rfl ?_
 refine zab ?_
 refine qb ?_
 refine qx (rs1 rfl (qJ rfl)) rfl ?_
 rfl
theorem kc (b : Bool) (e : Int) (h : b = true) : DFun Tryz.prog 47 [.val (.bool b), .val (.int .i64 e)] [] (.tup []) [] := by
 refine zap (N := 9) 0 (by kernel_rfl) Tryz.func47 rfl rfl rfl (by simp only [fr0, qau, qaw]; exact rfl) rfl fun s0 hs0 => ?_
 refine zah ?_
 refine zaa 1 rfl ?_
 refine za rfl (ko rfl (ev1 rfl)) ?_
 refine zab ?_
 refine qc rfl (by rw [h]; rfl) ?_
 refine zao ?_
 refine qx (qF rfl) rfl ?_
 rfl
theorem j4 (b : Bool) (e : Int) (h : b = false) : DPan Tryz.prog 47 [.val (.bool b), .val (.int .i64 e)] [] (.ifc 125 (.val (.agg #[.int .i64 e]))) [] := by
 refine zap (N := 9) 0 (by kernel_rfl) Tryz.func47 rfl rfl rfl (by simp only [fr0, qau, qaw]; exact rfl) rfl fun s0 hs0 => ?_
 refine zah ?_
 refine zaa 1 rfl ?_
 refine za rfl (ko rfl (ev1 rfl)) ?_
 refine zab ?_
 refine qM rfl (by rw [h]; rfl) ?_
 refine zac ?_
 refine zaa 1 rfl ?_
 refine za rfl (kU (ps := [(0, .tmp 6)]) rfl fl125 UT (vc (ev1 rfl) vn) rfl rfl) ?_
 refine za rfl (xq rfl US (ev1 rfl)) ?_
 refine qZ rfl (wb rfl (ev1 rfl)) rfl ?_
 refine JY rfl ?_
 rfl
theorem zL (l : List Int) : DFun Tryz.prog 48 [.slf 1 (l).length ((l).flatMap uc8), .val (.int .i64 0)] [] (.slf 1 (l).length ((l).flatMap uc8)) [] := by
 refine zap (N := 10) 0 (by kernel_rfl) Tryz.func48 rfl rfl rfl (by simp only [fr0, qau, qaw]; exact rfl) rfl fun s0 hs0 => ?_
 refine kG (t := 0) rfl fun hl0 hL0 => ?_
 refine zah ?_
 refine zaa 1 rfl ?_
 refine zab ?_
 refine zah ?_
 refine zaa 1 rfl ?_
 refine za rfl (qv rfl (ev1 rfl) (ev1 rfl)) ?_
 refine zaa 1 rfl ?_
 refine za rfl (zai [] [] [] rfl (ev1 rfl) (ec (ev1 rfl) (ec (ev1 rfl) en)) rfl rfl (kc _ _ (rfl)) rfl rfl rfl rfl rfl rfl) ?_
 refine zab ?_
 refine zah ?_
 refine zaa 2 rfl ?_
 refine zab ?_
 refine qb ?_
 refine qx (rs1 rfl (qJ rfl)) rfl ?_
 rfl
theorem gL (n : Int) : DFun Tryz.prog 56 [.val (.int .u64 n), .val (.int .i64 0)] [] (.val (.int .u64 n)) [] := by
 refine zap (N := 10) 0 (by kernel_rfl) Tryz.func56 rfl rfl rfl (by simp only [fr0, qau, qaw]; exact rfl) rfl fun s0 hs0 => ?_
 refine zah ?_
 refine zaa 1 rfl ?_
 refine zab ?_
 refine zah ?_
 refine zaa 1 rfl ?_
 refine za rfl (qv rfl (ev1 rfl) (ev1 rfl)) ?_
 refine zaa 1 rfl ?_
 refine za rfl (zai [] [] [] rfl (ev1 rfl) (ec (ev1 rfl) (ec (ev1 rfl) en)) rfl rfl (kc _ _ (rfl)) rfl rfl rfl rfl rfl rfl) ?_
 refine zab ?_
 refine zah ?_
 refine zaa 2 rfl ?_
 refine zab ?_
 refine qb ?_
 refine qx (rs1 rfl (qJ rfl)) rfl ?_
 rfl
theorem GR (n e : Int) (h : (e == 0) = false) : DPan Tryz.prog 56 [.val (.int .u64 n), .val (.int .i64 e)] [] (.ifc 125 (.val (.agg #[.int .i64 e]))) [] := by
 refine zap (N := 10) 0 (by kernel_rfl) Tryz.func56 rfl rfl rfl (by simp only [fr0, qau, qaw]; exact rfl) rfl fun s0 hs0 => ?_
 refine zah ?_
 refine zaa 1 rfl ?_
 refine zab ?_
 refine zah ?_
 refine zaa 1 rfl ?_
 refine za rfl (qv rfl (ev1 rfl) (ev1 rfl)) ?_
 refine zaa 1 rfl ?_
 refine qZ rfl (qE [] [] [] rfl (ev1 rfl) (ec (ev1 rfl) (ec (ev1 rfl) en)) rfl rfl (j4 _ _ (h)) rfl rfl rfl rfl rfl rfl) rfl ?_
 refine JY rfl ?_
 rfl
theorem A4 : DFun Tryz.prog 83 [.slf 1 ([8, 8]).length (([8, 8]).flatMap ic)] [] (.val (.int .i64 16)) [] := by
 refine zap (N := 17) 0 (by kernel_rfl) Tryz.func83 rfl rfl rfl (by simp only [fr0, qau, qaw]; exact rfl) rfl fun s0 hs0 => ?_
 refine kG (t := 0) rfl fun hl0 hL0 => ?_
 refine zah ?_
 refine zaa 1 rfl ?_
 refine zab ?_
 refine zah ?_
 refine zaa 1 rfl ?_
 refine zab ?_
 refine zae ?_
 refine zah ?_
 refine zaa 1 rfl ?_
 refine za rfl (qt rfl y6 (ev1 rfl)) ?_
 refine zaa 1 rfl ?_
 refine zab ?_
 refine zas ?_
 refine jS (kp ?_)
 refine zah ?_
 refine za rfl (qA rfl (ev1 rfl) (ev1 rfl)) ?_
 refine zab ?_
 refine zae ?_
 refine qM rfl (rfl) ?_
 refine zao ?_
 refine zae ?_
 refine zas ?_
 refine zah ?_
 refine za rfl (qP (l := ([8, 8] : List Int)) (en := ic) (j := 0) rfl y6 (ev1 rfl) (ev1 rfl) (fun _ => rfl) (by decide) rfl (qa3 (qaF rfl))) ?_
 refine za rfl ((qS rfl tb3 (ev1 rfl) rfl).cast (d' := .val (.int .i64 8)) (by rfl)) ?_
 refine zaa 1 rfl ?_
 refine zab ?_
 refine zac ?_
 refine zaa 2 rfl ?_
 refine za rfl (qh rfl (ev1 rfl) (ev1 rfl) (fun _ => qaC _ (by omega))) ?_
 refine zaa 1 rfl ?_
 refine zab ?_
 refine zac ?_
 refine za rfl (qh rfl (ev1 rfl) (ev1 rfl) (fun _ => qaC _ (by omega))) ?_
 refine zaa 1 rfl ?_
 refine zab ?_
 refine kp ?_
 refine zah ?_
 refine za rfl (qA rfl (ev1 rfl) (ev1 rfl)) ?_
 refine zab ?_
 refine zae ?_
 refine qM rfl (rfl) ?_
 refine zao ?_
 refine zae ?_
 refine zas ?_
 refine zah ?_
 refine za rfl (qP (l := ([8, 8] : List Int)) (en := ic) (j := 1) rfl y6 (ev1 rfl) (ev1 rfl) (fun _ => rfl) (by decide) rfl (qa3 (qaF rfl))) ?_
 refine za rfl ((qS rfl tb3 (ev1 rfl) rfl).cast (d' := .val (.int .i64 8)) (by rfl)) ?_
 refine zaa 1 rfl ?_
 refine zab ?_
 refine zac ?_
 refine zaa 2 rfl ?_
 refine za rfl (qh rfl (ev1 rfl) (ev1 rfl) (fun _ => qaC _ (by omega))) ?_
 refine zaa 1 rfl ?_
 refine zab ?_
 refine zac ?_
 refine za rfl (qh rfl (ev1 rfl) (ev1 rfl) (fun _ => qaC _ (by omega))) ?_
 refine zaa 1 rfl ?_
 refine zab ?_
 refine kp ?_
 refine zah ?_
 refine za rfl (qA rfl (ev1 rfl) (ev1 rfl)) ?_
 refine zab ?_
 refine zae ?_
 refine qc rfl (rfl) ?_
 refine qr ?_
 refine zah ?_
 refine zaa 2 rfl ?_
 refine zab ?_
 refine qb ?_
 refine qx (rs1 rfl (qJ rfl)) rfl ?_
 rfl
theorem YT (e : Int) : DDef Tryz.prog 80 [.loc 0 0] [.flat 34 [.int .i64 e]] none none [.flat 34 [.int .i64 0]] := by
 refine k5 (dr := .tup []) (t := 1) (N := 3) 1 (by kernel_rfl) Tryz.func80 rfl rfl rfl (by simp only [fr0, qau, qaw]; exact rfl) rfl rfl rfl rfl rfl fun s0 hs0 => ?_
 refine za rfl (zai [] [] [] rfl (ev1 rfl) (ec (ev1 rfl) en) rfl rfl (vh) rfl rfl rfl rfl rfl rfl) ?_
 refine zar rfl (qH rfl qT (ev1 rfl) (ev1 rfl) rfl) ?_
 refine zab ?_
 refine qY [0] (qF rfl) rfl rfl ?_ ⟨rfl, trivial⟩
 rfl
theorem HC (w : Nat) (n : Int) (hw : 1 ≤ w ∧ w ≤ 8) (hn : 0 ≤ n ∧ n < (256 ^ w : Nat)) : DFun Tryz.prog 84 [.val (.int .i64 (w : Int)), .val (.int .u64 n)] [] (.slf 1 (kS w n).length ((kS w n).flatMap uc8)) [] := by
 have h := W9 w hw n (UH hn)
 rw [GM hw hn.1] at h
 exact h
theorem Zx (a b : Int) (ha : 0 ≤ a ∧ a < (256 ^ 8 : Nat)) (hb : 0 ≤ b ∧ b < (256 ^ 8 : Nat)) : DFun Tryz.prog 49 [.slf 1 ([8, 8]).length (([8, 8]).flatMap ic), .slf 1 ([a, b]).length (([a, b]).flatMap uc)] [] (.tup [.arr 0, .val (.int .i64 0)]) [.arr 5 1 (kS 8 a ++ kS 8 b).length ((kS 8 a ++ kS 8 b).flatMap uc8)] := by
 refine qj (N := 39) 0 (by kernel_rfl) Tryz.func49 rfl rfl rfl (by simp only [fr0, qau, qaw]; exact rfl) rfl fun s0 hs0 => ?_
 refine qD rfl hs0 ?_
 refine zam 1 ?_
 refine zac ?_
 refine zaa 1 rfl ?_
 refine zaj rfl (zan 0 rfl jO rfl) ?_
 refine zab ?_
 refine qn (l0 := [_]) rfl rfl rfl rfl rfl hs0 ?_
 refine za rfl (qV rfl en (ec (ev1 rfl) en)) ?_
 refine zab ⟨_, _, _, 1, ev1 rfl, qaM hs0 (by decide), rfl, ?_⟩
 have hs1 : s0.M.length ≤ 1 := qaM hs0 (by decide)
 refine qC rfl hs0 ?_
 refine zah ?_
 refine zaa 1 rfl ?_
 refine za rfl (zai [] [] [] rfl (ev1 rfl) (ec (ev1 rfl) en) rfl rfl (vg [8, 8] rfl) rfl rfl rfl rfl rfl rfl) ?_
 refine zab ?_
 refine zae ?_
 refine zah ?_
 refine zaa 1 rfl ?_
 refine za rfl (qt rfl KA (ev1 rfl)) ?_
 refine zaa 1 rfl ?_
 refine za rfl (qt rfl y6 (ev1 rfl)) ?_
 refine za rfl (ka rfl (ev1 rfl) (ev1 rfl)) ?_
 refine zab ?_
 refine qc rfl (rfl) ?_
 refine zao ?_
 refine zae ?_
 refine zam 1 ?_
 refine zac ?_
 refine zaa 1 rfl ?_
 refine za rfl (zai [] [] [] rfl (ev1 rfl) (ec (ev1 rfl) en) rfl rfl (A4) rfl rfl rfl rfl rfl rfl) ?_
 refine zaj rfl (H0 1 (16) rfl qu zr5 (ev1 rfl) (ev1 rfl) (fun _ => rfl) (fun _ => by omega) rfl (fun _ => by omega)) ?_
 refine zaa 1 rfl ?_
 refine zab ?_
 refine zae ?_
 refine zah ?_
 refine zaa 1 rfl ?_
 refine za rfl (qt rfl y6 (ev1 rfl)) ?_
 refine zaa 1 rfl ?_
 refine zab ?_
 refine zas ?_
 refine jS (kp ?_)
 refine zah ?_
 refine za rfl (qA rfl (ev1 rfl) (ev1 rfl)) ?_
 refine zab ?_
 refine zae ?_
 refine qM rfl (rfl) ?_
 refine zao ?_
 refine zae ?_
 refine zas ?_
 refine zah ?_
 refine zaa 1 rfl ?_
 refine za rfl (qP (l := ([8, 8] : List Int)) (en := ic) (j := 0) rfl y6 (ev1 rfl) (ev1 rfl) (fun _ => rfl) (by decide) rfl (qa3 (qaF rfl))) ?_
 refine za rfl ((qS rfl tb3 (ev1 rfl) rfl).cast (d' := .val (.int .i64 8)) (by rfl)) ?_
 refine zaa 2 rfl ?_
 refine zab ?_
 refine zam 1 ?_
 refine zac ?_
 refine zaa 4 rfl ?_
 refine za rfl (qP (l := ([a, b] : List Int)) (en := uc) (j := 0) rfl KA (ev1 rfl) (ev1 rfl) (fun _ => rfl) (by decide) rfl (qa3 (qaF rfl))) ?_
 refine za rfl (qS rfl ku (ev1 rfl) rfl) ?_
 refine za rfl (zai [] [] [] rfl (ev1 rfl) (ec (ev1 rfl) (ec (ev1 rfl) en)) rfl rfl (HC 8 _ (by decide) (by assumption)) rfl rfl rfl rfl rfl rfl) ?_
 refine zaj rfl (vt (j := 2) rfl qu zr5 rfl (ev1 rfl) (ev1 rfl) yS rfl rfl (fun _ => ym (fun _ => rfl) _) (fun _ => ⟨by simp only [qaD, j3, qbd]; omega, by simp only [qaD, j3, qbd]; omega⟩)) ?_
 refine zaa 1 rfl ?_
 refine zab ?_
 refine zac ?_
 refine za rfl (qh rfl (ev1 rfl) (ev1 rfl) (fun _ => qaC _ (by omega))) ?_
 refine zaa 1 rfl ?_
 refine zab ?_
 refine kp ?_
 refine zah ?_
 refine za rfl (qA rfl (ev1 rfl) (ev1 rfl)) ?_
 refine zab ?_
 refine zae ?_
 refine qM rfl (rfl) ?_
 refine zao ?_
 refine zae ?_
 refine zas ?_
 refine zah ?_
 refine zaa 1 rfl ?_
 refine za rfl (qP (l := ([8, 8] : List Int)) (en := ic) (j := 1) rfl y6 (ev1 rfl) (ev1 rfl) (fun _ => rfl) (by decide) rfl (qa3 (qaF rfl))) ?_
 refine za rfl ((qS rfl tb3 (ev1 rfl) rfl).cast (d' := .val (.int .i64 8)) (by rfl)) ?_
 refine zaa 2 rfl ?_
 refine zab ?_
 refine zam 1 ?_
 refine zac ?_
 refine zaa 4 rfl ?_
 refine za rfl (qP (l := ([a, b] : List Int)) (en := uc) (j := 1) rfl KA (ev1 rfl) (ev1 rfl) (fun _ => rfl) (by decide) rfl (qa3 (qaF rfl))) ?_
 refine za rfl (qS rfl ku (ev1 rfl) rfl) ?_
 refine za rfl (zai [] [] [] rfl (ev1 rfl) (ec (ev1 rfl) (ec (ev1 rfl) en)) rfl rfl (HC 8 _ (by decide) (by assumption)) rfl rfl rfl rfl rfl rfl) ?_
 refine zaj rfl (vt (j := 3) rfl qu zr5 rfl (ev1 rfl) (ev1 rfl) yS rfl rfl (fun _ => ym (fun _ => rfl) _) (fun _ => ⟨by simp only [qaD, j3, qbd]; omega, by simp only [qaD, j3, qbd]; omega⟩)) ?_
 refine zaa 1 rfl ?_
 refine zab ?_
 refine zac ?_
 refine za rfl (qh rfl (ev1 rfl) (ev1 rfl) (fun _ => qaC _ (by omega))) ?_
 refine zaa 1 rfl ?_
 refine zab ?_
 refine kp ?_
 refine zah ?_
 refine za rfl (qA rfl (ev1 rfl) (ev1 rfl)) ?_
 refine zab ?_
 refine zae ?_
 refine qc rfl (rfl) ?_
 refine qr ?_
 refine zah ?_
 refine zaa 2 rfl ?_
 refine zar rfl (qH rfl qT (ev1 rfl) (ev1 rfl) rfl) ?_
 refine zab ?_
 refine qb ?_
 refine jI (kF [0] [] rfl rfl (YT _) rfl rfl rfl rfl rfl) ?_
 refine qY [3] (rs2 rfl (qJ rfl) (js qT rfl rfl rfl)) rfl rfl ?_ ⟨?_, trivial⟩
 rfl
 exact vA (by simp [j3]) (by simp [qbg])
theorem Zy (a b : Int) (ha : 0 ≤ a ∧ a < (256 ^ 8 : Nat)) (hb : 0 ≤ b ∧ b < (256 ^ 8 : Nat)) : DFun Tryz.prog 49 [.slf 1 2 [.int .i64 8, .int .i64 8], .slf 1 2 [.int .u64 a, .int .u64 b]] [] (.tup [.slf 1 (kS 8 a ++ kS 8 b).length ((kS 8 a ++ kS 8 b).flatMap uc8), .val (.int .i64 0)]) [] := y3 (Zx a b ha hb) rfl
theorem YU (e : Int) : DDef Tryz.prog 91 [.loc 0 0] [.flat 34 [.int .i64 e]] none none [.flat 34 [.int .i64 0]] := by
 refine k5 (dr := .tup []) (t := 1) (N := 3) 1 (by kernel_rfl) Tryz.func91 rfl rfl rfl (by simp only [fr0, qau, qaw]; exact rfl) rfl rfl rfl rfl rfl fun s0 hs0 => ?_
 refine za rfl (zai [] [] [] rfl (ev1 rfl) (ec (ev1 rfl) en) rfl rfl (vh) rfl rfl rfl rfl rfl rfl) ?_
 refine zar rfl (qH rfl qT (ev1 rfl) (ev1 rfl) rfl) ?_
 refine zab ?_
 refine qY [0] (qF rfl) rfl rfl ?_ ⟨rfl, trivial⟩
 rfl
theorem Jw (e n : Int) : DDef Tryz.prog 91 [.loc 0 0] [.flat 34 [.int .i64 e]] (some (.ifc 130 (.val (.agg #[.int .i64 n])))) none [.flat 34 [.int .i64 n]] := by
 refine k5 (dr := .tup []) (t := 1) (N := 3) 1 (by kernel_rfl) Tryz.func91 rfl rfl rfl (by simp only [fr0, qau, qaw]; exact rfl) rfl rfl rfl rfl rfl fun s0 hs0 => ?_
 refine za rfl (zai [] [] [] rfl (ev1 rfl) (ec (ev1 rfl) en) rfl rfl (xR n) rfl rfl rfl rfl rfl rfl) ?_
 refine zar rfl (qH rfl qT (ev1 rfl) (ev1 rfl) rfl) ?_
 refine zab ?_
 refine qY [0] (qF rfl) rfl rfl ?_ ⟨rfl, trivial⟩
 rfl
theorem yt (l : List Int) (hl : l.length ≤ 2000000) (p : Nat) (h : p + 8 ≤ l.length) : DFun Tryz.prog 57 [.slf 1 (l).length ((l).flatMap uc8), .val (.int .i64 (p : Int)), .val (.int .i64 8)] [] (.tup [.val (.int .u64 (ky 8 (l.drop p))), .val (.int .i64 0)]) [] := by
 refine qj (N := 29) 0 (by kernel_rfl) Tryz.func57 rfl rfl rfl (by simp only [fr0, qau, qaw]; exact rfl) rfl fun s0 hs0 => ?_
 refine qD rfl hs0 ?_
 refine zam 1 ?_
 refine zac ?_
 refine zaa 1 rfl ?_
 refine zaj rfl (zan 0 rfl jO rfl) ?_
 refine zab ?_
 refine qn (l0 := [_]) rfl rfl rfl rfl rfl hs0 ?_
 refine za rfl (qV rfl en (ec (ev1 rfl) en)) ?_
 refine zab ⟨_, _, _, 1, ev1 rfl, qaM hs0 (by decide), rfl, ?_⟩
 have hs1 : s0.M.length ≤ 1 := qaM hs0 (by decide)
 refine qC rfl hs0 ?_
 refine zah ?_
 refine zaa 1 rfl ?_
 refine za rfl (xo (ps := [(0, .tmp 10)]) rfl y6 zr3 rfl (vc (ev1 rfl) vn) rfl (by decide) (by decide)) ?_
 refine za rfl (zai [] [] [] rfl (ev1 rfl) (ec (ev1 rfl) en) rfl rfl (vg [8] rfl) rfl rfl rfl rfl rfl rfl) ?_
 refine zab ?_
 refine zae ?_
 refine zah ?_
 refine zaa 1 rfl ?_
 refine za rfl (qA rfl (ev1 rfl) (ev1 rfl)) ?_
 refine zaa 1 rfl ?_
 refine zak (qm rfl rfl rfl) rfl rfl rfl (zal (.inl rfl) (ev1 rfl)) ?_
 refine zak (qm rfl rfl rfl) rfl rfl rfl (zal (.inl rfl) (ev1 rfl)) ?_
 refine zak (qm rfl rfl rfl) rfl rfl rfl (qt rfl qu (ev2 rfl)) ?_
 refine zak (qm rfl rfl rfl) rfl rfl rfl (kE rfl (ev2 rfl) (ev2 rfl)) ?_
 refine za rfl (kA rfl (ev1 rfl) (ev3 rfl id)) ?_
 refine zab ?_
 refine qc rfl (by simp; omega) ?_
 refine zao ?_
 refine zae ?_
 refine zam 1 ?_
 refine zac ?_
 refine zaa 2 rfl ?_
 refine za rfl (gG (i := p) rfl qu (ev1 rfl) (kB (ev1 rfl)) (fun _ => by omega) (fun _ => by omega) (fun _ => rfl)) ?_
 refine za rfl (K9 rfl W0 Gn (ev1 rfl) rfl) ?_
 refine zaj rfl (zan 1 rfl Gn rfl) ?_
 refine zar rfl (kt rfl HB (ev1 rfl) (ev1 rfl) rfl rfl rfl rfl) ?_
 refine zab ?_
 refine zah ?_
 refine zaa 1 rfl ?_
 refine zaj rfl (zai [1] [] [] rfl (ev1 rfl) (ec (ev1 rfl) (ec (ev1 rfl) en)) rfl rfl (KD _ (l.drop p) (by rw [qaZ]; omega) 0 8 (by rw [qaZ]; omega)) rfl rfl rfl rfl rfl rfl) ?_
 refine zaa 1 rfl ?_
 refine zar rfl (qH rfl qT (ev1 rfl) (ev1 rfl) rfl) ?_
 refine zab ?_
 refine qb ?_
 refine jI (kF [0] [] rfl rfl (YU _) rfl rfl rfl rfl rfl) ?_
 refine qx (rs2 rfl (qJ rfl) (js qT rfl rfl rfl)) rfl ?_
 rfl
theorem QN (l : List Int) (hl : l.length ≤ 2000000) (p : Nat) (hp : p ≤ l.length) (h : l.length < p + 8) : DFun Tryz.prog 57 [.slf 1 (l).length ((l).flatMap uc8), .val (.int .i64 (p : Int)), .val (.int .i64 8)] [] (.tup [.val (.int .u64 0), .val (.int .i64 110)]) [] := by
 refine qj (N := 29) 0 (by kernel_rfl) Tryz.func57 rfl rfl rfl (by simp only [fr0, qau, qaw]; exact rfl) rfl fun s0 hs0 => ?_
 refine qD rfl hs0 ?_
 refine zam 1 ?_
 refine zac ?_
 refine zaa 1 rfl ?_
 refine zaj rfl (zan 0 rfl jO rfl) ?_
 refine zab ?_
 refine qn (l0 := [_]) rfl rfl rfl rfl rfl hs0 ?_
 refine za rfl (qV rfl en (ec (ev1 rfl) en)) ?_
 refine zab ⟨_, _, _, 1, ev1 rfl, qaM hs0 (by decide), rfl, ?_⟩
 have hs1 : s0.M.length ≤ 1 := qaM hs0 (by decide)
 refine qC rfl hs0 ?_
 refine zah ?_
 refine zaa 1 rfl ?_
 refine za rfl (xo (ps := [(0, .tmp 10)]) rfl y6 zr3 rfl (vc (ev1 rfl) vn) rfl (by decide) (by decide)) ?_
 refine za rfl (zai [] [] [] rfl (ev1 rfl) (ec (ev1 rfl) en) rfl rfl (vg [8] rfl) rfl rfl rfl rfl rfl rfl) ?_
 refine zab ?_
 refine zae ?_
 refine zah ?_
 refine zaa 1 rfl ?_
 refine za rfl (qA rfl (ev1 rfl) (ev1 rfl)) ?_
 refine zaa 1 rfl ?_
 refine zak (qm rfl rfl rfl) rfl rfl rfl (zal (.inl rfl) (ev1 rfl)) ?_
 refine zak (qm rfl rfl rfl) rfl rfl rfl (zal (.inl rfl) (ev1 rfl)) ?_
 refine zak (qm rfl rfl rfl) rfl rfl rfl (qt rfl qu (ev2 rfl)) ?_
 refine zak (qm rfl rfl rfl) rfl rfl rfl (kE rfl (ev2 rfl) (ev2 rfl)) ?_
 refine za rfl (kA rfl (ev1 rfl) (ev3 rfl id)) ?_
 refine zab ?_
 refine qc rfl (by simp; omega) ?_
 refine zao ?_
 refine zae ?_
 refine zam 1 ?_
 refine zac ?_
 refine zaa 2 rfl ?_
 refine za rfl (gG (i := p) rfl qu (ev1 rfl) (kB (ev1 rfl)) (fun _ => by omega) (fun _ => by omega) (fun _ => rfl)) ?_
 refine za rfl (K9 rfl W0 Gn (ev1 rfl) rfl) ?_
 refine zaj rfl (zan 1 rfl Gn rfl) ?_
 refine zar rfl (kt rfl HB (ev1 rfl) (ev1 rfl) rfl rfl rfl rfl) ?_
 refine zab ?_
 refine zah ?_
 refine zaa 1 rfl ?_
 refine qZ rfl (qE [1] [] [] rfl (ev1 rfl) (ec (ev1 rfl) (ec (ev1 rfl) en)) rfl rfl (zB _ (l.drop p) 0 8 (by rw [qaZ]; omega)) rfl rfl rfl rfl rfl rfl) rfl ?_
 refine jI (qL [0] [] rfl rfl rfl (Jw _ _) rfl rfl rfl rfl rfl) ?_
 refine qx (rs2 rfl (qJ rfl) (js qT rfl rfl rfl)) rfl ?_
 rfl
end Go.Proofs.YtofklkbfkoliiaaGreat
namespace Go.Proofs.YtofklkbfkoliiaaGreat
set_option linter.unusedVariables false
set_option linter.unusedSimpArgs false
open Go.RowKit
attribute [local irreducible] tkN jK ky
theorem A5 (n : Nat) (h : n ≤ 100000000) : DFun Tryz.prog 74 [.val (.slice none 0 0), .val (.int .i64 (n : Int))] [] (.arr 0) [.arr 5 1 (0) ((([] : List Int)).flatMap uc8)] := by
 refine zap (N := 27) 0 (by kernel_rfl) Tryz.func74 rfl rfl rfl (by simp only [fr0, qau, qaw]; exact rfl) rfl fun s0 hs0 => ?_
 refine zah ?_
 refine zaa 1 rfl ?_
 refine zab ?_
 refine zae ?_
 refine zah ?_
 refine zaa 1 rfl ?_
 refine za rfl (qA rfl (ev1 rfl) (ev1 rfl)) ?_
 refine zab ?_
 refine qc rfl (by simp) ?_
 refine zao ?_
 refine zae ?_
 refine zah ?_
 refine zaa 2 rfl ?_
 refine za rfl (Qh rfl qu (ev1 rfl)) ?_
 refine zaa 1 rfl ?_
 refine za rfl (qt rfl qu (WA 1 (ev1 rfl))) ?_
 refine za rfl (jJ rfl (ev1 rfl) (ev1 rfl) (fun _ => qaC _ (by decide))) ?_
 refine za rfl (jJ rfl (ev1 rfl) (ev1 rfl) (fun _ => qaC _ (by simp; omega))) ?_
 refine zaa 1 rfl ?_
 refine zab ?_
 refine zah ?_
 refine zaa 1 rfl ?_
 refine za rfl (kE rfl (ev1 rfl) (ev1 rfl)) ?_
 refine zab ?_
 refine qe rfl (fun c2 => ?_) (fun c2 => ?_)
 ·try simp only [decide_eq_true_eq, decide_eq_false_iff_not, beq_iff_eq, bne_iff_ne, beq_eq_false_iff_ne, bne_eq_false_iff_eq, qaz, qaA, qav, qaB, qax, ne_eq, Decidable.not_not, qaQ, qaR] at c2
  refine zam 2 ?_
  refine zac ?_
  refine zaa 2 rfl ?_
  refine za rfl (Qh rfl qu (ev1 rfl)) ?_
  refine za rfl (H9 rfl qu (ev1 rfl) (kB (ev1 rfl))) ?_
  refine zaa 1 rfl ?_
  refine zaj rfl (Aa (n := n) (j := 0) rfl qu Tryz.underlying3 zr5 rfl (by decide) (ev1 rfl) (ev1 rfl) (fun _ => by simp) (fun _ => by simp at c2; omega) rfl (fun _ => ⟨by omega, by omega⟩)) ?_
  refine zaa 1 rfl ?_
  refine za rfl (qt rfl qu (WA 1 (ev1 rfl))) ?_
  refine zaj rfl (Ab (j := 1) rfl qu (ev1 rfl) rfl (kB (ev1 rfl)) rfl) ?_
  refine zaa 1 rfl ?_
  refine zab ?_
  refine zah ?_
  refine zaa 2 rfl ?_
  refine zab ?_
  refine qb ?_
  refine qY [1] (rs1 rfl (qJ rfl)) rfl rfl ?_ ⟨rfl, trivial⟩
  rfl
 ·try simp only [decide_eq_true_eq, decide_eq_false_iff_not, beq_iff_eq, bne_iff_ne, beq_eq_false_iff_ne, bne_eq_false_iff_eq, qaz, qaA, qav, qaB, qax, ne_eq, Decidable.not_not, qaQ, qaR] at c2
  refine zao ?_
  refine zah ?_
  refine zaa 2 rfl ?_
  refine zab ?_
  refine Kl 4 5 1 rfl rfl rfl ?_
  refine qb ?_
  refine qY [0] (rs1 rfl (qJ rfl)) rfl rfl ?_ ⟨rfl, trivial⟩
  rfl
def tkL (ps : List (List Int)) (k : Nat) : Nat := (ps.take k).flatten.length
theorem uR {ps : List (List Int)} {k : Nat} (h : k < ps.length) : tkL ps (k + 1) = tkL ps k + ps[k].length := by
 unfold tkL; rw [qa0 h, List.flatten_append, qaD]; simp
theorem QO (ps : List (List Int)) : tkL ps ps.length = ps.flatten.length := by unfold tkL; rw [List.take_length]
theorem Jx (ps : List (List Int)) (k : Nat) : tkL ps k ≤ ps.flatten.length := by
 have h : (ps.take k ++ ps.drop k).flatten.length = ps.flatten.length := by rw [List.take_append_drop]
 rw [List.flatten_append, qaD] at h
 unfold tkL
 omega
theorem UU (ps : List (List Int)) (hT : ps.flatten.length ≤ 100000000) : DFun Tryz.prog 36 [.slm 1 (ps).length ((ps).flatMap fun p => [.slf 1 (p).length ((p).flatMap uc8)])] [] (.arr 0) [.arr 5 1 (ps.flatten.length) ((ps.flatten).flatMap uc8)] := by
 refine zap (N := 36) 0 (by kernel_rfl) Tryz.func36 rfl rfl rfl (by simp only [fr0, qau, qaw]; exact rfl) rfl fun s0 hs0 => ?_
 refine ve (t := 0) rfl fun hl0 hL0 => ?_
 refine zah ?_
 refine zaa 1 rfl ?_
 refine zab ?_
 refine zah ?_
 refine zaa 1 rfl ?_
 refine zab ?_
 refine zae ?_
 refine zah ?_
 refine zaa 1 rfl ?_
 refine za rfl (jr rfl gJ (ev1 rfl)) ?_
 refine zaa 1 rfl ?_
 refine zab ?_
 refine zas ?_
 refine qI ⟨hs0, rfl⟩ (α := Nat) (fun k => [(3, .val (.int .i64 (tkL ps k : Nat))), (11, .val (.int .i64 (k : Int)))]) [(0, _), (9, _), (10, _)] (fun k => []) [] (fun k => k ≤ ps.length) (fun k => ps.length - k) 0 [] (by simp) rfl ⟨rfl, rfl, rfl, trivial⟩ ⟨rfl, rfl, trivial⟩ trivial ?_
 intro k hx
 simp only [upd, zad, zaf, qaE, qaH]
 have hk := hx
 have htk := Jx ps k
 refine zah ?_
 refine za rfl (qA rfl (ev1 rfl) (ev1 rfl)) ?_
 refine zab ?_
 refine zae ?_
 refine qe rfl (fun c1 => ?_) (fun c1 => ?_)
 ·try simp only [decide_eq_true_eq, decide_eq_false_iff_not, beq_iff_eq, bne_iff_ne, beq_eq_false_iff_ne, bne_eq_false_iff_eq, qaz, qaA, qav, qaB, qax, ne_eq, Decidable.not_not, qaQ, qaR] at c1
  refine zao ?_
  refine zae ?_
  refine zas ?_
  refine zah ?_
  refine za rfl (vC (k) rfl gJ (ev1 rfl) (ev1 rfl) (fun _ => rfl) (wc (by omega))) ?_
  refine za rfl (gE rfl kC (ev1 rfl) rfl) ?_
  refine zaa 1 rfl ?_
  refine zab ?_
  refine zae ?_
  have htl := Jx ps (k + 1)
  rw [uR (by omega)] at htl
  refine zac ?_
  refine zaa 2 rfl ?_
  refine za rfl (qt rfl qu (ev1 rfl)) ?_
  refine za rfl (qh rfl (ev1 rfl) (ev1 rfl) (fun _ => qaC _ (by omega))) ?_
  refine zaa 1 rfl ?_
  refine zab ?_
  refine zah ?_
  refine zaa 1 rfl ?_
  refine za rfl (qA rfl (ev1 rfl) (ev1 rfl)) ?_
  refine zab ?_
  refine qc rfl (by simp; omega) ?_
  refine zao ?_
  refine zac ?_
  refine za rfl (qh rfl (ev1 rfl) (ev1 rfl) (fun _ => qaC _ (by omega))) ?_
  refine zaa 1 rfl ?_
  refine zab ?_
  refine ⟨k + 1, [], by omega, by simp only []; omega, rfl, ⟨by rw [uR (by omega)]; rfl, rfl, rfl, rfl, rfl, trivial⟩, trivial⟩
 ·try simp only [decide_eq_true_eq, decide_eq_false_iff_not, beq_iff_eq, bne_iff_ne, beq_eq_false_iff_ne, bne_eq_false_iff_eq, qaz, qaA, qav, qaB, qax, ne_eq, Decidable.not_not, qaQ, qaR] at c1
  refine qr ?_
  refine zae ?_
  obtain rfl : k = ps.length := by omega
  rw [QO]
  refine zam 1 ?_
  refine zac ?_
  refine zaa 1 rfl ?_
  refine zaj rfl (zai [] [] [0] rfl (ev1 rfl) (ec (ev1 rfl) (ec (ev1 rfl) en)) rfl rfl (A5 _ hT) rfl rfl rfl rfl rfl rfl) ?_
  refine zaa 1 rfl ?_
  refine zab ?_
  refine zae ?_
  refine zah ?_
  refine zaa 1 rfl ?_
  refine za rfl (jr rfl gJ (ev1 rfl)) ?_
  refine zaa 1 rfl ?_
  refine zab ?_
  refine zas ?_
  refine qI ⟨hs0, rfl⟩ (α := Nat) (fun k => [(27, .val (.int .i64 (k : Int)))]) [(6, _), (25, _), (26, _)] (fun k => [(0, .arr 5 1 ((tkL ps k)) (((ps.take k).flatten).flatMap uc8))]) [.hole] (fun k => k ≤ ps.length) (fun k => ps.length - k) 0 [0] (by simp) rfl ⟨rfl, rfl, rfl, trivial⟩ ⟨rfl, trivial⟩ ⟨rfl, trivial⟩ ?_
  intro k hx
  simp only [upd, zad, zaf, qaE, qaH]
  have hk := hx
  have htk := Jx ps k
  refine zah ?_
  refine za rfl (qA rfl (ev1 rfl) (ev1 rfl)) ?_
  refine zab ?_
  refine zae ?_
  refine qe rfl (fun c3 => ?_) (fun c3 => ?_)
  ·try simp only [decide_eq_true_eq, decide_eq_false_iff_not, beq_iff_eq, bne_iff_ne, beq_eq_false_iff_ne, bne_eq_false_iff_eq, qaz, qaA, qav, qaB, qax, ne_eq, Decidable.not_not, qaQ, qaR] at c3
   refine zao ?_
   refine zae ?_
   refine zas ?_
   refine zah ?_
   refine za rfl (vC (k) rfl gJ (ev1 rfl) (ev1 rfl) (fun _ => rfl) (wc (by omega))) ?_
   refine za rfl (gE rfl kC (ev1 rfl) rfl) ?_
   refine zaa 1 rfl ?_
   refine zab ?_
   have htl := Jx ps (k + 1)
   rw [uR (by omega)] at htl
   refine zam 1 ?_
   refine zac ?_
   refine zaa 2 rfl ?_
   refine zaj rfl (vt (j := 1) rfl qu zr5 rfl (ev1 rfl) (ev1 rfl) yS rfl rfl (fun _ => ym (fun _ => rfl) _) (fun _ => ⟨by omega, by omega⟩)) ?_
   refine zaa 1 rfl ?_
   refine zab ?_
   refine zac ?_
   refine za rfl (qh rfl (ev1 rfl) (ev1 rfl) (fun _ => qaC _ (by omega))) ?_
   refine zaa 1 rfl ?_
   refine zab ?_
   refine ⟨k + 1, [1], by omega, by simp only []; omega, rfl, ⟨rfl, rfl, rfl, rfl, trivial⟩, ⟨by rw [uR (by omega), qa0 (by omega), List.flatten_append, List.flatten_singleton]; exact vA rfl (by simp), trivial⟩⟩
  ·try simp only [decide_eq_true_eq, decide_eq_false_iff_not, beq_iff_eq, bne_iff_ne, beq_eq_false_iff_ne, bne_eq_false_iff_eq, qaz, qaA, qav, qaB, qax, ne_eq, Decidable.not_not, qaQ, qaR] at c3
   refine qr ?_
   refine zah ?_
   refine zaa 2 rfl ?_
   refine zab ?_
   refine qb ?_
   obtain rfl : k = ps.length := by omega
   rw [QO, List.take_length]
   refine qY [0] (rs1 rfl (qJ rfl)) rfl rfl ?_ ⟨rfl, trivial⟩
   rfl
theorem GS (ps : List (List Int)) (n : Nat) (L : List D) (h1 : n = ps.length) (h2 : L = ps.flatMap fun p => [.slf 1 (p).length ((p).flatMap uc8)]) (hT : ps.flatten.length ≤ 100000000) : DFun Tryz.prog 36 [.slm 1 n L] [] (.slf 1 (ps.flatten).length ((ps.flatten).flatMap uc8)) [] := by
 subst h1 h2; exact y3 (UU ps hT) rfl
end Go.Proofs.YtofklkbfkoliiaaGreat
namespace Go.Proofs.YtofklkbfkoliiaaGreat
set_option linter.unusedVariables false
set_option linter.unusedSimpArgs false
open Go.RowKit
attribute [local irreducible] tkN jK ky
theorem w9 : fdL Tryz.prog 53 = some [(0, 1), (1, 1), (2, 1), (3, 1)] := by kernel_rfl
theorem gM : fdO Tryz.prog 53 0 = some 0 := by kernel_rfl
theorem yi : fdO Tryz.prog 53 1 = some 1 := by kernel_rfl
theorem gp : fdO Tryz.prog 53 2 = some 2 := by kernel_rfl
theorem vK : fdO Tryz.prog 53 3 = some 3 := by kernel_rfl
theorem yJ : fdO Tryz.prog 61 0 = some 0 := by kernel_rfl
theorem ub : fdO Tryz.prog 61 1 = some 1 := by kernel_rfl
theorem gU : fdO Tryz.prog 61 2 = some 2 := by kernel_rfl
theorem xh : tyB Tryz.prog 59 = some (false, 1) := by kernel_rfl
theorem jt : tyB Tryz.prog 61 = some (true, 3) := by kernel_rfl
theorem k9 : zrC Tryz.prog 53 = some [.int .u64 0, .int .i64 0, .int .i64 0, .slice none 0 0] := by kernel_rfl
structure PcM where
 sn : Int
 ix : Int
 mn : Int
 b : List Int
deriving DecidableEq
structure PiM where
 sn : Int
 mn : Int
 ps : List (List Int)
deriving DecidableEq
def pcD (p : PcM) : List D := [.val (.int .u64 p.sn), .val (.int .i64 p.ix), .val (.int .i64 p.mn), .slf 1 (p.b).length ((p.b).flatMap uc8)]
def rwB (b : List Int) : D := .slf 1 (b).length ((b).flatMap uc8)
def piD (p : PiM) : List D := [.val (.int .u64 p.sn), .val (.int .i64 p.mn), .slm 1 p.ps.length (p.ps.flatMap fun b => [rwB b])]
def HD (ix mn n : Int) : Bool := (n == 256) || ((ix == mn - 1) && decide (1 ≤ n) && decide (n < 256))
def snB (n : Int) : Bool := decide (1 ≤ n) && decide (n ≤ 4611686018427387904)
def pcB (p : PcM) : Bool := snB p.sn && decide (1 ≤ p.mn) && decide (p.mn ≤ 64) && decide (0 ≤ p.ix) && decide (p.ix < p.mn) && HD p.ix p.mn p.b.length
theorem pcB_iff {p : PcM} : pcB p = true ↔ (1 ≤ p.sn ∧ p.sn ≤ 4611686018427387904) ∧ (1 ≤ p.mn ∧ p.mn ≤ 64) ∧ (0 ≤ p.ix ∧ p.ix < p.mn) ∧ (p.b.length = 256 ∨ (p.ix = p.mn - 1 ∧ 1 ≤ p.b.length ∧ p.b.length < 256)) := by
 unfold pcB snB HD
 simp only [qav, qaB, decide_eq_true_eq, beq_iff_eq]
 omega
def emp (b : List Int) : Bool := ((b.length : Nat) : Int) == 0
theorem emp_iff {b : List Int} : emp b = true ↔ b = [] := by
 unfold emp
 simp
def yK : List (List Int) → Int → Int
 | [], _ => -1
 | b :: r, k => if emp b = true then k else yK r (k + 1)
theorem zM {ps : List (List Int)} {k : Nat} (h : k < ps.length) : yK (ps.drop k) (k : Int) = if emp ps[k] = true then (k : Int) else yK (ps.drop (k + 1)) ((k + 1 : Nat) : Int) := by
 rw [List.drop_eq_getElem_cons h, yK]
 rfl
theorem VR {ps : List (List Int)} {k : Nat} (h : ps.length ≤ k) (i : Int) : yK (ps.drop k) i = -1 := by
 rw [List.drop_of_length_le h, yK]
def noB (p : PiM) : Bool := ((p.sn == 0) && (p.mn == 0)) && ((p.ps.length : Int) == 0)
def xD (sn mn : Int) : List (List Int) → Int → Bool
 | [], _ => true
 | b :: r, k => (emp b || pcB ⟨sn, k, mn, b⟩) && xD sn mn r (k + 1)
theorem xi {sn mn : Int} {ps : List (List Int)} {k : Nat} (h : k < ps.length) : xD sn mn (ps.drop k) (k : Int) = ((emp ps[k] || pcB ⟨sn, k, mn, ps[k]⟩) && xD sn mn (ps.drop (k + 1)) ((k + 1 : Nat) : Int)) := by
 rw [List.drop_eq_getElem_cons h, xD]
 rfl
theorem GT {sn mn : Int} {ps : List (List Int)} {k : Nat} (h : ps.length ≤ k) (i : Int) : xD sn mn (ps.drop k) i = true := by
 rw [List.drop_of_length_le h, xD]
def wn : List (List Int) → Nat
 | [] => 0
 | b :: r => (if emp b = true then 0 else 1) + wn r
theorem KO {ps : List (List Int)} {k : Nat} (h : k < ps.length) : wn (ps.take (k + 1)) = wn (ps.take k) + if emp ps[k] = true then 0 else 1 := by
 induction ps generalizing k with
 | nil => simp at h
 | cons b r ih =>
  cases k with
  | zero => simp [wn]
  | succ k =>
   rw [List.take_succ_cons, List.take_succ_cons, wn, wn, ih (by simpa using h), Nat.add_assoc]
   rfl
theorem Zz (ps : List (List Int)) : wn ps ≤ ps.length := by
 induction ps with
 | nil => simp [wn]
 | cons b r ih => rw [wn, qaU]; split <;> omega
def ji (p : PiM) : Bool := noB p || (xD p.sn p.mn p.ps 0 && !(((wn p.ps : Nat) : Int) == 0) && ((p.ps.length : Int) == p.mn))
theorem vL (p : PcM) : DFun Tryz.prog 24 [.agg (pcD p)] [] (.val (.int .i64 (wg (pcB p) 311))) [] := by
 refine zap (N := 55) 0 (by kernel_rfl) Tryz.func24 rfl rfl rfl (by simp only [fr0, qau, qaw]; exact rfl) rfl fun s0 hs0 => ?_
 refine zae ?_
 refine zam 1 ?_
 refine zac ?_
 refine zaj rfl (qG 0 rfl (ev1 rfl) rfl) ?_
 refine zaa 1 rfl ?_
 refine zab ?_
 refine zae ?_
 refine zah ?_
 refine za rfl (qa rfl gM (ev1 rfl)) ?_
 refine za rfl (zaq rfl ku (ev1 rfl) rfl rfl) ?_
 refine za rfl (qA rfl (ev1 rfl) (ev1 rfl)) ?_
 refine zaa 1 rfl ?_
 refine zak (qm rfl rfl rfl) rfl rfl rfl (qa rfl gM (ev1 rfl)) ?_
 refine zak (qm rfl rfl rfl) rfl rfl rfl (zaq rfl ku (ev2 rfl) rfl rfl) ?_
 refine zak (qm rfl rfl rfl) rfl rfl rfl (kE rfl (ev2 rfl) (ev1 rfl)) ?_
 refine za rfl (kA rfl (ev1 rfl) (ev3 rfl id)) ?_
 refine zaa 1 rfl ?_
 refine zak (qm rfl rfl rfl) rfl rfl rfl (qa rfl gp (ev1 rfl)) ?_
 refine zak (qm rfl rfl rfl) rfl rfl rfl (zaq rfl tb3 (ev2 rfl) rfl rfl) ?_
 refine zak (qm rfl rfl rfl) rfl rfl rfl (qA rfl (ev2 rfl) (ev1 rfl)) ?_
 refine za rfl (kA rfl (ev1 rfl) (ev3 rfl id)) ?_
 refine zaa 1 rfl ?_
 refine zak (qm rfl rfl rfl) rfl rfl rfl (qa rfl gp (ev1 rfl)) ?_
 refine zak (qm rfl rfl rfl) rfl rfl rfl (zaq rfl tb3 (ev2 rfl) rfl rfl) ?_
 refine zak (qm rfl rfl rfl) rfl rfl rfl (kE rfl (ev2 rfl) (ev1 rfl)) ?_
 refine za rfl (kA rfl (ev1 rfl) (ev3 rfl id)) ?_
 refine zaa 1 rfl ?_
 refine zak (qm rfl rfl rfl) rfl rfl rfl (qa rfl yi (ev1 rfl)) ?_
 refine zak (qm rfl rfl rfl) rfl rfl rfl (zaq rfl tb3 (ev2 rfl) rfl rfl) ?_
 refine zak (qm rfl rfl rfl) rfl rfl rfl (qA rfl (ev2 rfl) (ev1 rfl)) ?_
 refine za rfl (kA rfl (ev1 rfl) (ev3 rfl id)) ?_
 refine zaa 1 rfl ?_
 refine zak (qm rfl rfl rfl) rfl rfl rfl (qa rfl yi (ev1 rfl)) ?_
 refine zak (qm rfl rfl rfl) rfl rfl rfl (zaq rfl tb3 (ev2 rfl) rfl rfl) ?_
 refine zak (qm rfl rfl rfl) rfl rfl rfl (qa rfl gp (ev1 rfl)) ?_
 refine zak (qm rfl rfl rfl) rfl rfl rfl (zaq rfl tb3 (ev2 rfl) rfl rfl) ?_
 refine zak (qm rfl rfl rfl) rfl rfl rfl (jY rfl (ev2 rfl) (ev2 rfl)) ?_
 refine za rfl (kA rfl (ev1 rfl) (ev3 rfl id)) ?_
 refine zab ?_
 refine qe rfl (fun c1 => ?_) (fun c1 => ?_)
 ·try simp only [decide_eq_true_eq, decide_eq_false_iff_not, beq_iff_eq, bne_iff_ne, beq_eq_false_iff_ne, bne_eq_false_iff_eq, qaz, qaA, qav, qaB, qax, ne_eq, Decidable.not_not, qaQ, qaR] at c1
  refine zah ?_
  refine zaa 1 rfl ?_
  refine zab ?_
  refine qb ?_
  refine qx (rs1 rfl (qJ rfl)) rfl ?_
  have h : pcB p = false := by
   rw [Bool.eq_false_iff]; intro h; have h := pcB_iff.1 h; omega
  rw [h]
  rfl
 ·try simp only [decide_eq_true_eq, decide_eq_false_iff_not, beq_iff_eq, bne_iff_ne, beq_eq_false_iff_ne, bne_eq_false_iff_eq, qaz, qaA, qav, qaB, qax, ne_eq, Decidable.not_not, qaQ, qaR] at c1
  refine zao ?_
  refine zae ?_
  refine zah ?_
  refine za rfl (qa rfl vK (ev1 rfl)) ?_
  refine za rfl (zaq rfl kC (ev1 rfl) rfl rfl) ?_
  refine za rfl (qt rfl qu (ev1 rfl)) ?_
  refine zaa 1 rfl ?_
  refine zab ?_
  refine zah ?_
  refine zaa 1 rfl ?_
  refine za rfl (qA rfl (ev1 rfl) (ev1 rfl)) ?_
  refine zaa 1 rfl ?_
  refine zak (qm rfl rfl rfl) rfl rfl rfl (zal (.inl rfl) (ev1 rfl)) ?_
  refine zak (qm rfl rfl rfl) rfl rfl rfl (kE rfl (ev2 rfl) (ev1 rfl)) ?_
  refine za rfl (kA rfl (ev1 rfl) (ev3 rfl id)) ?_
  refine zaa 1 rfl ?_
  refine zak (qm rfl rfl rfl) rfl rfl rfl (zal (.inl rfl) (ev1 rfl)) ?_
  refine zak (qm rfl rfl rfl) rfl rfl rfl (qA rfl (ev2 rfl) (ev1 rfl)) ?_
  refine zak (qm rfl rfl rfl) rfl rfl rfl (zal (.inl rfl) (ev2 rfl)) ?_
  refine zak (jo rfl rfl rfl) rfl rfl rfl (qa rfl yi (ev1 rfl)) ?_
  refine zak (jo rfl rfl rfl) rfl rfl rfl (zaq rfl tb3 (ev2 rfl) rfl rfl) ?_
  refine zak (jo rfl rfl rfl) rfl rfl rfl (qa rfl gp (ev1 rfl)) ?_
  refine zak (jo rfl rfl rfl) rfl rfl rfl (zaq rfl tb3 (ev2 rfl) rfl rfl) ?_
  refine zak (jo rfl rfl rfl) rfl rfl rfl (jJ rfl (ev2 rfl) (ev1 rfl) (fun hp => qaC _ (by first | omega | (simp at hp; omega)))) ?_
  refine zak (jo rfl rfl rfl) rfl rfl rfl (qA rfl (ev2 rfl) (ev2 rfl)) ?_
  refine zak (qm rfl rfl rfl) rfl rfl rfl (q0 rfl (ev2 rfl) (ev2 rfl)) ?_
  refine za rfl (kA rfl (ev1 rfl) (ev3 rfl id)) ?_
  refine zab ?_
  refine qe rfl (fun c2 => ?_) (fun c2 => ?_)
  ·try simp only [decide_eq_true_eq, decide_eq_false_iff_not, beq_iff_eq, bne_iff_ne, beq_eq_false_iff_ne, bne_eq_false_iff_eq, qaz, qaA, qav, qaB, qax, ne_eq, Decidable.not_not, qaQ, qaR] at c2
   refine zah ?_
   refine zaa 1 rfl ?_
   refine zab ?_
   refine qb ?_
   refine qx (rs1 rfl (qJ rfl)) rfl ?_
   have h : pcB p = false := by
    rw [Bool.eq_false_iff]; intro h; have h := pcB_iff.1 h; omega
   rw [h]
   rfl
  ·try simp only [decide_eq_true_eq, decide_eq_false_iff_not, beq_iff_eq, bne_iff_ne, beq_eq_false_iff_ne, bne_eq_false_iff_eq, qaz, qaA, qav, qaB, qax, ne_eq, Decidable.not_not, qaQ, qaR] at c2
   refine zao ?_
   refine zah ?_
   refine zaa 1 rfl ?_
   refine zab ?_
   refine qb ?_
   refine qx (rs1 rfl (qJ rfl)) rfl ?_
   have h : pcB p = true := by
    rw [pcB_iff]
    rw [Bool.and_eq_false_iff, decide_eq_false_iff_not, decide_eq_false_iff_not] at c2
    omega
   rw [h]
   rfl
theorem ZA (b : List Int) : DFun Tryz.prog 103 [.slf 1 (b).length ((b).flatMap uc8)] [] (.val (.bool (emp b))) [] := by
 refine zap (N := 6) 0 (by kernel_rfl) Tryz.func103 rfl rfl rfl (by simp only [fr0, qau, qaw]; exact rfl) rfl fun s0 hs0 => ?_
 refine kG (t := 0) rfl fun hl0 hL0 => ?_
 refine zah ?_
 refine zaa 1 rfl ?_
 refine zab ?_
 refine zah ?_
 refine zaa 1 rfl ?_
 refine za rfl (qt rfl qu (ev1 rfl)) ?_
 refine za rfl (qv rfl (ev1 rfl) (ev1 rfl)) ?_
 refine zaa 1 rfl ?_
 refine zab ?_
 refine qb ?_
 refine qx (rs1 rfl (qJ rfl)) rfl ?_
 rfl
theorem ixf_d (ps : List (List Int)) : DFun Tryz.prog 124 [.slm 1 (ps).length ((ps).flatMap fun b => [rwB b]), .fn (.func 103) [] []] [] (.val (.int .i64 (yK ps 0))) [] := by
 refine zap (N := 19) 0 (by kernel_rfl) Tryz.func124 rfl rfl rfl (by simp only [fr0, qau, qaw]; exact rfl) rfl fun s0 hs0 => ?_
 refine ve (t := 0) rfl fun hl0 hL0 => ?_
 refine zah ?_
 refine zaa 1 rfl ?_
 refine zab ?_
 refine zae ?_
 refine zah ?_
 refine zaa 1 rfl ?_
 refine za rfl (jr rfl gJ (ev1 rfl)) ?_
 refine zaa 1 rfl ?_
 refine zab ?_
 refine zas ?_
 refine qI ⟨hs0, rfl⟩ (α := Nat) (fun k => [(8, .val (.int .i64 (k : Int)))]) [(0, _), (1, _), (7, _)] (fun k => []) [] (fun k => k ≤ ps.length ∧ yK ps 0 = yK (ps.drop k) (k : Int)) (fun k => ps.length - k) 0 [] (by simp) rfl ⟨rfl, rfl, rfl, trivial⟩ ⟨rfl, trivial⟩ trivial ?_
 intro k hx
 simp only [upd, zad, zaf, qaE, qaH]
 obtain ⟨hk, he⟩ := hx
 refine zah ?_
 refine za rfl (qA rfl (ev1 rfl) (ev1 rfl)) ?_
 refine zab ?_
 refine zae ?_
 refine qe rfl (fun c1 => ?_) (fun c1 => ?_)
 ·try simp only [decide_eq_true_eq, decide_eq_false_iff_not, beq_iff_eq, bne_iff_ne, beq_eq_false_iff_ne, bne_eq_false_iff_eq, qaz, qaA, qav, qaB, qax, ne_eq, Decidable.not_not, qaQ, qaR] at c1
  refine zao ?_
  refine zae ?_
  refine zas ?_
  refine zah ?_
  refine zaa 2 rfl ?_
  refine zab ?_
  refine zah ?_
  refine zaa 3 rfl ?_
  refine za rfl (vC (k) rfl gJ (ev1 rfl) (ev1 rfl) (fun _ => rfl) (wc (by omega))) ?_
  refine za rfl (gE rfl kC (ev1 rfl) rfl) ?_
  refine za rfl (zai [] [] [] rfl (ev1 rfl) (ec (ev1 rfl) en) rfl rfl (ZA _) rfl rfl rfl rfl rfl rfl) ?_
  refine zab ?_
  refine qe rfl (fun c2 => ?_) (fun c2 => ?_)
  ·refine zah ?_
   refine zaa 2 rfl ?_
   refine zab ?_
   refine qb ?_
   refine qx (rs1 rfl (qJ rfl)) rfl ?_
   rw [he, zM (by omega), if_pos c2]
  ·refine zao ?_
   refine zac ?_
   refine za rfl (qh rfl (ev1 rfl) (ev1 rfl) (fun _ => qaC _ (by omega))) ?_
   refine zaa 1 rfl ?_
   refine zab ?_
   refine ⟨k + 1, [], ⟨by omega, by rw [he, zM (by omega), if_neg (by rw [c2]; decide)]⟩, by simp only []; omega, rfl, ⟨rfl, rfl, rfl, rfl, trivial⟩, trivial⟩
 ·try simp only [decide_eq_true_eq, decide_eq_false_iff_not, beq_iff_eq, bne_iff_ne, beq_eq_false_iff_ne, bne_eq_false_iff_eq, qaz, qaA, qav, qaB, qax, ne_eq, Decidable.not_not, qaQ, qaR] at c1
  refine qr ?_
  refine zah ?_
  refine zaa 1 rfl ?_
  refine zab ?_
  refine qb ?_
  refine qx (rs1 rfl (qJ rfl)) rfl ?_
  rw [he, VR (by omega)]
theorem ZB (ps : List (List Int)) : DFun Tryz.prog 102 [.slm 1 (ps).length ((ps).flatMap fun b => [rwB b]), .fn (.func 103) [] []] [] (.val (.int .i64 (yK ps 0))) [] := by
 refine zap (N := 8) 0 (by kernel_rfl) Tryz.func102 rfl rfl rfl (by simp only [fr0, qau, qaw]; exact rfl) rfl fun s0 hs0 => ?_
 refine ve (t := 0) rfl fun hl0 hL0 => ?_
 refine zah ?_
 refine zaa 1 rfl ?_
 refine zab ?_
 refine zah ?_
 refine zaa 2 rfl ?_
 refine za rfl (zai [] [] [] rfl (ev1 rfl) (ec (ev1 rfl) (ec (ev1 rfl) en)) rfl rfl (ixf_d _) rfl rfl rfl rfl rfl rfl) ?_
 refine zaa 1 rfl ?_
 refine zab ?_
 refine qb ?_
 refine qx (rs1 rfl (qJ rfl)) rfl ?_
 rfl
theorem xj (p : PiM) : DFun Tryz.prog 73 [.agg (piD p)] [] (.val (.int .i64 (yK p.ps 0))) [] := by
 refine zap (N := 6) 0 (by kernel_rfl) Tryz.func73 rfl rfl rfl (by simp only [fr0, qau, qaw]; exact rfl) rfl fun s0 hs0 => ?_
 refine zae ?_
 refine zam 1 ?_
 refine zac ?_
 refine zaj rfl (qG 0 rfl (ev1 rfl) rfl) ?_
 refine zaa 1 rfl ?_
 refine zab ?_
 refine zah ?_
 refine za rfl (qa rfl gU (ev1 rfl)) ?_
 refine za rfl (zaq rfl xh (ev1 rfl) rfl rfl) ?_
 refine za rfl (zai [] [] [] rfl (ev1 rfl) (ec (ev1 rfl) (ec (ev1 rfl) en)) rfl rfl (ZB _) rfl rfl rfl rfl rfl rfl) ?_
 refine zaa 1 rfl ?_
 refine zab ?_
 refine qb ?_
 refine qx (rs1 rfl (qJ rfl)) rfl ?_
 rfl
theorem wC (p : PiM) : DFun Tryz.prog 69 [.agg (piD p)] [] (.val (.bool (noB p))) [] := by
 refine zap (N := 17) 0 (by kernel_rfl) Tryz.func69 rfl rfl rfl (by simp only [fr0, qau, qaw]; exact rfl) rfl fun s0 hs0 => ?_
 refine zae ?_
 refine zam 1 ?_
 refine zac ?_
 refine zaj rfl (qG 0 rfl (ev1 rfl) rfl) ?_
 refine zaa 1 rfl ?_
 refine zab ?_
 refine zah ?_
 refine za rfl (qa rfl yJ (ev1 rfl)) ?_
 refine za rfl (zaq rfl ku (ev1 rfl) rfl rfl) ?_
 refine za rfl (qv rfl (ev1 rfl) (ev1 rfl)) ?_
 refine zaa 1 rfl ?_
 refine zak (qz rfl rfl rfl) rfl rfl rfl (qa rfl ub (ev1 rfl)) ?_
 refine zak (qz rfl rfl rfl) rfl rfl rfl (zaq rfl tb3 (ev2 rfl) rfl rfl) ?_
 refine zak (qz rfl rfl rfl) rfl rfl rfl (qv rfl (ev2 rfl) (ev1 rfl)) ?_
 refine za rfl (q0 rfl (ev1 rfl) (ev3 rfl id)) ?_
 refine zaa 1 rfl ?_
 refine zak (qz rfl rfl rfl) rfl rfl rfl (qa rfl gU (ev1 rfl)) ?_
 refine zak (qz rfl rfl rfl) rfl rfl rfl (zaq rfl xh (ev2 rfl) rfl rfl) ?_
 refine zak (qz rfl rfl rfl) rfl rfl rfl (jr rfl gJ (ev2 rfl)) ?_
 refine zak (qz rfl rfl rfl) rfl rfl rfl (qv rfl (ev2 rfl) (ev1 rfl)) ?_
 refine za rfl (q0 rfl (ev1 rfl) (ev3 rfl id)) ?_
 refine zaa 1 rfl ?_
 refine zab ?_
 refine qb ?_
 refine qx (rs1 rfl (qJ rfl)) rfl ?_
 rfl
theorem Jy (p : PiM) (hn : p.ps.length ≤ 5000) : DFun Tryz.prog 28 [.agg (piD p)] [] (.val (.int .i64 (wg (ji p) 312))) [] := by
 refine zap (N := 41) 0 (by kernel_rfl) Tryz.func28 rfl rfl rfl (by simp only [fr0, qau, qaw]; exact rfl) rfl fun s0 hs0 => ?_
 refine zae ?_
 refine zam 1 ?_
 refine zac ?_
 refine zaj rfl (qG 0 rfl (ev1 rfl) rfl) ?_
 refine zaa 1 rfl ?_
 refine zab ?_
 refine zae ?_
 refine zah ?_
 refine za rfl (qo rfl jt (ev1 rfl) rfl rfl) ?_
 refine za rfl (zai [] [] [] rfl (ev1 rfl) (ec (ev1 rfl) en) rfl rfl (wC _) rfl rfl rfl rfl rfl rfl) ?_
 refine zab ?_
 refine qe rfl (fun c1 => ?_) (fun c1 => ?_)
 ·refine zah ?_
  refine zaa 1 rfl ?_
  refine zab ?_
  refine qb ?_
  refine qx (rs1 rfl (qJ rfl)) rfl ?_
  have h : ji p = true := by unfold ji; rw [c1]; rfl
  rw [h]
  rfl
 ·refine zao ?_
  refine zah ?_
  refine zaa 1 rfl ?_
  refine zab ?_
  refine zae ?_
  refine zah ?_
  refine za rfl (qa rfl gU (ev1 rfl)) ?_
  refine za rfl (zaq rfl xh (ev1 rfl) rfl rfl) ?_
  refine za rfl (jr rfl gJ (ev1 rfl)) ?_
  refine zaa 1 rfl ?_
  refine zab ?_
  refine zas ?_
  refine qI ⟨hs0, rfl⟩ (α := Nat) (fun k => [(3, .val (.int .i64 (wn (p.ps.take k) : Nat))), (11, .val (.int .i64 (k : Int)))]) [(1, _), (9, _), (10, _)] (fun k => []) [_] (fun k => k ≤ p.ps.length ∧ xD p.sn p.mn p.ps 0 = xD p.sn p.mn (p.ps.drop k) (k : Int)) (fun k => p.ps.length - k) 0 [0] (by simp) rfl ⟨rfl, rfl, rfl, trivial⟩ ⟨rfl, rfl, trivial⟩ ⟨rfl, trivial⟩ ?_
  intro k hx
  simp only [upd, zad, zaf, qaE, qaH]
  obtain ⟨hk, he⟩ := hx
  have hct := Zz (p.ps.take k)
  rw [qaT] at hct
  refine zah ?_
  refine za rfl (qA rfl (ev1 rfl) (ev1 rfl)) ?_
  refine zab ?_
  refine zae ?_
  refine qe rfl (fun c2 => ?_) (fun c2 => ?_)
  ·try simp only [decide_eq_true_eq, decide_eq_false_iff_not, beq_iff_eq, bne_iff_ne, beq_eq_false_iff_ne, bne_eq_false_iff_eq, qaz, qaA, qav, qaB, qax, ne_eq, Decidable.not_not, qaQ, qaR] at c2
   refine zao ?_
   refine zae ?_
   refine zas ?_
   refine zah ?_
   refine zaa 1 rfl ?_
   refine za rfl (vC (k) rfl gJ (ev1 rfl) (ev1 rfl) (fun _ => rfl) (wc (by omega))) ?_
   refine za rfl (gE rfl kC (ev1 rfl) rfl) ?_
   refine zaa 2 rfl ?_
   refine zab ?_
   refine zae ?_
   refine zah ?_
   refine zaa 1 rfl ?_
   refine za rfl (qt rfl qu (ev1 rfl)) ?_
   refine za rfl (qv rfl (ev1 rfl) (ev1 rfl)) ?_
   refine zab ?_
   refine qe rfl (fun c3 => ?_) (fun c3 => ?_)
   ·have c3 : emp p.ps[k] = true := c3
    refine qr ?_
    refine zac ?_
    refine za rfl (qh rfl (ev1 rfl) (ev1 rfl) (fun _ => qaC _ (by omega))) ?_
    refine zaa 1 rfl ?_
    refine zab ?_
    refine ⟨k + 1, [0], ⟨by omega, by rw [he, xi (by omega), c3, Bool.true_or, Bool.true_and]⟩, by simp only []; omega, rfl, ⟨by rw [KO (by omega), if_pos c3]; rfl, rfl, rfl, rfl, rfl, trivial⟩, ⟨rfl, trivial⟩⟩
   ·have c3 : emp p.ps[k] = false := c3
    refine zao ?_
    refine zae ?_
    refine zah ?_
    refine za rfl (qa rfl yJ (ev1 rfl)) ?_
    refine za rfl (zaq rfl ku (ev1 rfl) rfl rfl) ?_
    refine zaa 1 rfl ?_
    refine za rfl (qa rfl ub (ev1 rfl)) ?_
    refine za rfl (zaq rfl tb3 (ev1 rfl) rfl rfl) ?_
    refine zaa 1 rfl ?_
    refine za rfl (kX (ps := [(0, .tmp 20), (1, .tmp 21), (2, .tmp 23), (3, .tmp 24)]) rfl w9 k9 (ec (ev1 rfl) (ec (ev1 rfl) (ec (ev1 rfl) (ec (ev1 rfl) en)))) rfl rfl rfl) ?_
    refine za rfl (zai [] [] [] rfl (ev1 rfl) (ec (ev1 rfl) en) rfl rfl (vL ⟨p.sn, k, p.mn, p.ps[k]⟩) rfl rfl rfl rfl rfl rfl) ?_
    refine za rfl (ka rfl (ev1 rfl) (ev1 rfl)) ?_
    refine zab ?_
    refine qe rfl (fun c5 => ?_) (fun c5 => ?_)
    ·have c4 : pcB ⟨p.sn, k, p.mn, p.ps[k]⟩ = false := by
      cases h : pcB ⟨p.sn, k, p.mn, p.ps[k]⟩ with
      | false => rfl
      | true => rw [h] at c5; cases c5
     refine zah ?_
     refine zaa 1 rfl ?_
     refine zab ?_
     refine qb ?_
     refine qx (rs1 rfl (qJ rfl)) rfl ?_
     have h : ji p = false := by
      unfold ji
      rw [he, xi (by omega), c3, c4, c1]
      rfl
     rw [h]
     rfl
    ·have c4 : pcB ⟨p.sn, k, p.mn, p.ps[k]⟩ = true := by
      cases h : pcB ⟨p.sn, k, p.mn, p.ps[k]⟩ with
      | true => rfl
      | false => rw [h] at c5; cases c5
     refine zao ?_
     refine zac ?_
     refine zaa 1 rfl ?_
     refine za rfl (qh rfl (ev1 rfl) (ev1 rfl) (fun _ => qaC _ (by omega))) ?_
     refine zaa 1 rfl ?_
     refine zab ?_
     refine zac ?_
     refine za rfl (qh rfl (ev1 rfl) (ev1 rfl) (fun _ => qaC _ (by omega))) ?_
     refine zaa 1 rfl ?_
     refine zab ?_
     refine ⟨k + 1, [0], ⟨by omega, by rw [he, xi (by omega), c4, Bool.or_true, Bool.true_and]⟩, by simp only []; omega, rfl, ⟨by rw [KO (by omega), if_neg (by rw [c3]; decide)]; rfl, rfl, rfl, rfl, rfl, trivial⟩, ⟨rfl, trivial⟩⟩
  ·try simp only [decide_eq_true_eq, decide_eq_false_iff_not, beq_iff_eq, bne_iff_ne, beq_eq_false_iff_ne, bne_eq_false_iff_eq, qaz, qaA, qav, qaB, qax, ne_eq, Decidable.not_not, qaQ, qaR] at c2
   refine qr ?_
   refine zae ?_
   refine zae ?_
   obtain rfl : k = p.ps.length := by omega
   rw [List.take_length]
   refine zac ?_
   refine zaa 1 rfl ?_
   refine za rfl (qv rfl (ev1 rfl) (ev1 rfl)) ?_
   refine zaa 1 rfl ?_
   refine zak (qm rfl rfl rfl) rfl rfl rfl (qa rfl gU (ev1 rfl)) ?_
   refine zak (qm rfl rfl rfl) rfl rfl rfl (zaq rfl xh (ev2 rfl) rfl rfl) ?_
   refine zak (qm rfl rfl rfl) rfl rfl rfl (jr rfl gJ (ev2 rfl)) ?_
   refine zak (qm rfl rfl rfl) rfl rfl rfl (qa rfl ub (ev1 rfl)) ?_
   refine zak (qm rfl rfl rfl) rfl rfl rfl (zaq rfl tb3 (ev2 rfl) rfl rfl) ?_
   refine zak (qm rfl rfl rfl) rfl rfl rfl (ka rfl (ev2 rfl) (ev2 rfl)) ?_
   refine za rfl (kA rfl (ev1 rfl) (ev3 rfl id)) ?_
   refine zab ?_
   refine qe rfl (fun c6 => ?_) (fun c6 => ?_)
   ·refine zah ?_
    refine zaa 1 rfl ?_
    refine zab ?_
    refine qb ?_
    refine qx (rs1 rfl (qJ rfl)) rfl ?_
    have h : ji p = false := by
     unfold ji
     rw [c1, he, GT (qaO _)]
     simp at c6 ⊢
     omega
    rw [h]
    rfl
   ·refine zao ?_
    refine zah ?_
    refine zaa 1 rfl ?_
    refine zab ?_
    refine qb ?_
    refine qx (rs1 rfl (qJ rfl)) rfl ?_
    have h : ji p = true := by
     unfold ji
     rw [he, GT (qaO _)]
     simp at c6 ⊢
     omega
    rw [h]
    rfl
end Go.Proofs.YtofklkbfkoliiaaGreat
namespace Go.Proofs.YtofklkbfkoliiaaGreat
set_option linter.unusedVariables false
set_option linter.unusedSimpArgs false
open Go.RowKit
attribute [local irreducible] tkN jK ky
theorem fl118 : fdL Tryz.prog 118 = some [(0, 3)] := by kernel_rfl
theorem fl61 : fdL Tryz.prog 61 = some [(0, 1), (1, 1), (2, 1)] := by kernel_rfl
theorem kQ : fdO Tryz.prog 118 0 = some 0 := by kernel_rfl
theorem kx : tyB Tryz.prog 53 = some (true, 4) := by kernel_rfl
theorem zr118 : zrC Tryz.prog 118 = some [.int .u64 0, .int .i64 0, .slice none 0 0] := by kernel_rfl
theorem xE : zrC Tryz.prog 61 = some [.int .u64 0, .int .i64 0, .slice none 0 0] := by kernel_rfl
theorem GU {e : TypeId} {n : Nat} : ∀ s h, BlkOk s h (.arr e 1 n (qaJ (n * 1) (Value.slice none 0 0))) → BlkOk s h (.arx e 1 (qaJ n ([] : List Int)).length ((qaJ n ([] : List Int)).flatMap fun b => [rwB b])) := fun s h hk => by
 rw [qaS]
 rw [Nat.mul_one] at hk
 have e0 : ((qaJ n ([] : List Int)).flatMap fun b => [rwB b]) = qaJ n (rwB []) := by
  clear hk
  induction n with
  | zero => rfl
  | succ n ih => rw [List.replicate_succ, qaL, List.replicate_succ, ih]; rfl
 rw [e0]
 refine ⟨_, hk, by simp, fun j d v h1 h2 => ?_⟩
 obtain rfl := List.eq_of_mem_replicate (qbc h1)
 obtain rfl := List.eq_of_mem_replicate (qbc h2)
 exact Wk.slf0 1 s _ (.val _)
theorem ZC {ps : List (List Int)} {k : Nat} (h : k < ps.length) : (ps.take k ++ qaJ (ps.length - k) []).set k ps[k] = ps.take (k + 1) ++ qaJ (ps.length - (k + 1)) [] := by
 rw [List.set_append_right _ _ (by rw [qaT]; omega), qaT, Nat.min_eq_left (Nat.le_of_lt h), Nat.sub_self]
 rw [show ps.length - k = (ps.length - (k + 1)) + 1 by omega, List.replicate_succ, zad, qa0 h, qa1]
 rfl
theorem ZD (ps : List (List Int)) {k : Nat} (h : k ≤ ps.length) : (ps.take k ++ qaJ (ps.length - k) ([] : List Int)).length = ps.length := by
 rw [qaD, qaT, qaS]
 omega
theorem ud (p : PiM) (hn : p.ps.length ≤ 5000) (hb : ∀ b ∈ p.ps, b.length ≤ 100000) (hp : ji p = true) : DFun Tryz.prog 71 [.agg (piD p)] [] (.loc 0 0) [.mix 118 [.val (.int .u64 p.sn), .val (.int .i64 p.mn), .arr 1], .arx 30 1 (p.ps).length ((p.ps).flatMap fun b => [rwB b])] := by
 refine zap (N := 33) 0 (by kernel_rfl) Tryz.func71 rfl rfl rfl (by simp only [fr0, qau, qaw]; exact rfl) rfl fun s0 hs0 => ?_
 refine zae ?_
 refine zam 1 ?_
 refine zac ?_
 refine zaj rfl (qG 0 rfl (ev1 rfl) rfl) ?_
 refine zaa 1 rfl ?_
 refine zab ?_
 refine zah ?_
 refine za rfl (qo rfl jt (ev1 rfl) rfl rfl) ?_
 refine za rfl (zai [] [] [] rfl (ev1 rfl) (ec (ev1 rfl) en) rfl rfl (Jy p hn) rfl rfl rfl rfl rfl rfl) ?_
 refine za rfl (qv rfl (ev1 rfl) (ev1 rfl)) ?_
 refine za rfl (zai [] [] [] rfl (ev1 rfl) (ec (ev1 rfl) (ec (ev1 rfl) en)) rfl rfl (kc _ _ (by rw [hp]; rfl)) rfl rfl rfl rfl rfl rfl) ?_
 refine zab ?_
 refine zae ?_
 refine zam 1 ?_
 refine zac ?_
 refine za rfl (qa rfl gU (ev1 rfl)) ?_
 refine za rfl (zaq rfl xh (ev1 rfl) rfl rfl) ?_
 refine za rfl (jr rfl gJ (ev1 rfl)) ?_
 refine zaj rfl (Yy 1 (p.ps.length) (.slice none 0 0) rfl gJ W7 (rfl) (by decide) (ev1 rfl) (ev1 rfl) (fun _ => by omega) (fun _ => by omega) rfl (fun _ => by omega)) ?_
 refine zaa 1 rfl ?_
 refine zab ?_
 refine zae ?_
 refine zae ?_
 refine jf 1 GU rfl rfl (by simp only [qaE, qaH, zad, zaf, List.map]; exact rfl) ?_
 refine zac ?_
 refine za rfl (qa rfl gU (ev1 rfl)) ?_
 refine za rfl (zaq rfl xh (ev1 rfl) rfl rfl) ?_
 refine za rfl (jr rfl gJ (ev1 rfl)) ?_
 refine zaa 1 rfl ?_
 refine zab ?_
 refine zas ?_
 refine qI ⟨hs0, rfl⟩ (α := Nat) (fun k => [(17, .val (.int .i64 (k : Int)))]) [(1, _), (3, _), (15, _), (16, _)] (fun k => [(1, .arx 30 1 p.ps.length ((p.ps.take k ++ qaJ (p.ps.length - k) ([] : List Int)).flatMap fun b => [rwB b]))]) [_, .hole] (fun k => k ≤ p.ps.length) (fun k => p.ps.length - k) 0 [0, 1] (by simp) rfl ⟨rfl, rfl, rfl, rfl, trivial⟩ ⟨rfl, trivial⟩ ⟨rfl, qB (qaS ..) rfl (fun _ => rfl), trivial⟩ ?_
 intro k hx
 simp only [upd, zad, zaf, qaE, qaH]
 have hk := hx
 refine zah ?_
 refine za rfl (qA rfl (ev1 rfl) (ev1 rfl)) ?_
 refine zab ?_
 refine zae ?_
 refine qe rfl (fun c1 => ?_) (fun c1 => ?_)
 ·try simp only [decide_eq_true_eq, decide_eq_false_iff_not, beq_iff_eq, bne_iff_ne, beq_eq_false_iff_ne, bne_eq_false_iff_eq, qaz, qaA, qav, qaB, qax, ne_eq, Decidable.not_not, qaQ, qaR] at c1
  refine zao ?_
  refine zae ?_
  refine zas ?_
  refine zah ?_
  refine zaa 1 rfl ?_
  refine za rfl (vC (k) rfl gJ (ev1 rfl) (ev1 rfl) (fun _ => rfl) (wc (by omega))) ?_
  refine za rfl (gE rfl kC (ev1 rfl) rfl) ?_
  refine zaa 2 rfl ?_
  refine zab ?_
  refine zac ?_
  refine zaa 3 rfl ?_
  refine za rfl (zai [] [] [] rfl (ev1 rfl) (ec (ev1 rfl) en) rfl rfl (jP p.ps[k] (by have := hb _ (qbf (show k < p.ps.length by omega)); omega)) rfl rfl rfl rfl rfl rfl) ?_
  refine za rfl (vE (k) rfl gJ (ev1 rfl) (ev1 rfl) rfl (fun _ => rfl) (fun _ => by omega)) ?_
  refine zar rfl (Jh (j := k) (g := rwB) (q := p.ps[k]) rfl kC (ev1 rfl) (ev1 rfl) rfl (by rw [ZD _ (by omega)]; omega) (fun s v h => by cases h <;> exact ⟨rfl, rfl⟩)) ?_
  refine zab ?_
  refine zac ?_
  refine za rfl (qh rfl (ev1 rfl) (ev1 rfl) (fun _ => qaC _ (by omega))) ?_
  refine zaa 1 rfl ?_
  refine zab ?_
  refine ⟨k + 1, [0, 1], by omega, by simp only []; omega, rfl, ⟨rfl, rfl, rfl, rfl, rfl, trivial⟩, ⟨rfl, qB rfl (ZC (by omega)) (fun _ => rfl), trivial⟩⟩
 ·try simp only [decide_eq_true_eq, decide_eq_false_iff_not, beq_iff_eq, bne_iff_ne, beq_eq_false_iff_ne, bne_eq_false_iff_eq, qaz, qaA, qav, qaB, qax, ne_eq, Decidable.not_not, qaQ, qaR] at c1
  refine qr ?_
  refine zae ?_
  obtain rfl : k = p.ps.length := by omega
  rw [List.take_length, Nat.sub_self, List.replicate_zero, qbk]
  refine zac ?_
  refine zaa 1 rfl ?_
  refine za rfl (qa rfl gU (ev1 rfl)) ?_
  refine zar rfl (kL rfl xh (ev1 rfl) (ev1 rfl) (fun s v h => by cases h <;> exact ⟨rfl, rfl⟩) rfl (by first | decide | exact qaF rfl | simp)) ?_
  refine zab ?_
  refine zae ?_
  refine zam 1 ?_
  refine zac ?_
  refine za rfl (qo rfl jt (ev1 rfl) rfl rfl) ?_
  refine za rfl (Y8 rfl (ev1 rfl) fl118 zr118 rfl) ?_
  refine zaj rfl (qG 2 rfl (ev1 rfl) rfl) ?_
  refine zaa 1 rfl ?_
  refine zab ?_
  refine qb ?_
  refine qY [2, 1] (rs1 rfl (qJ rfl)) rfl rfl ?_ ⟨?_, ?_, trivial⟩
  rfl
  rfl
  exact qB rfl rfl (fun _ => rfl)
theorem UV {ps : List (List Int)} {j : Nat} (h : j < ps.length) : (ps.flatMap fun b => [rwB b])[j * 1]? = some (rwB ps[j]) := by
 rw [Nat.mul_one]
 induction ps generalizing j with
 | nil => simp at h
 | cons b r ih =>
  cases j with
  | zero => rfl
  | succ j =>
   rw [qaL]
   exact ih (by simpa using h)
theorem UW (p : PiM) (x : PcM) (hx : pcB x = false) : DPan Tryz.prog 72 [.loc 0 0, .agg (pcD x)] [.mix 118 [.val (.int .u64 p.sn), .val (.int .i64 p.mn), .arr 1], .arx 30 1 (p.ps).length ((p.ps).flatMap fun b => [rwB b])] (.ifc 125 (.val (.agg #[.int .i64 311]))) [.mix 118 [.val (.int .u64 p.sn), .val (.int .i64 p.mn), .arr 1], .arx 30 1 (p.ps).length ((p.ps).flatMap fun b => [rwB b])] := by
 refine zap (N := 68) 2 (by kernel_rfl) Tryz.func72 rfl rfl rfl (by simp only [fr0, qau, qaw]; exact rfl) rfl fun s0 hs0 => ?_
 refine zae ?_
 refine zam 1 ?_
 refine zac ?_
 refine zaj rfl (qG 2 rfl (ev1 rfl) rfl) ?_
 refine zab ?_
 refine zah ?_
 refine za rfl (qo rfl kx (ev1 rfl) rfl rfl) ?_
 refine za rfl (zai [] [] [] rfl (ev1 rfl) (ec (ev1 rfl) en) rfl rfl (vL x) rfl rfl rfl rfl rfl rfl) ?_
 refine za rfl (qv rfl (ev1 rfl) (ev1 rfl)) ?_
 refine qZ rfl (qE [] [] [] rfl (ev1 rfl) (ec (ev1 rfl) (ec (ev1 rfl) en)) rfl rfl (j4 _ _ (by rw [hx]; rfl)) rfl rfl rfl rfl rfl rfl) rfl ?_
 refine K3 [0, 1] rfl rfl ?_ ⟨rfl, qB rfl rfl (fun _ => rfl), trivial⟩
 rfl
theorem UX (p : PiM) (x : PcM) (hx : pcB x = true) (h2 : x.sn < p.sn) : DPan Tryz.prog 72 [.loc 0 0, .agg (pcD x)] [.mix 118 [.val (.int .u64 p.sn), .val (.int .i64 p.mn), .arr 1], .arx 30 1 (p.ps).length ((p.ps).flatMap fun b => [rwB b])] (.ifc 125 (.val (.agg #[.int .i64 241]))) [.mix 118 [.val (.int .u64 p.sn), .val (.int .i64 p.mn), .arr 1], .arx 30 1 (p.ps).length ((p.ps).flatMap fun b => [rwB b])] := by
 refine zap (N := 68) 2 (by kernel_rfl) Tryz.func72 rfl rfl rfl (by simp only [fr0, qau, qaw]; exact rfl) rfl fun s0 hs0 => ?_
 refine zae ?_
 refine zam 1 ?_
 refine zac ?_
 refine zaj rfl (qG 2 rfl (ev1 rfl) rfl) ?_
 refine zab ?_
 refine zah ?_
 refine za rfl (qo rfl kx (ev1 rfl) rfl rfl) ?_
 refine za rfl (zai [] [] [] rfl (ev1 rfl) (ec (ev1 rfl) en) rfl rfl (vL x) rfl rfl rfl rfl rfl rfl) ?_
 refine za rfl (qv rfl (ev1 rfl) (ev1 rfl)) ?_
 refine za rfl (zai [] [] [] rfl (ev1 rfl) (ec (ev1 rfl) (ec (ev1 rfl) en)) rfl rfl (kc _ _ (by rw [hx]; rfl)) rfl rfl rfl rfl rfl rfl) ?_
 refine zab ?_
 refine zae ?_
 refine yz 8 [([], []), ([2], []), ([], []), ([], []), ([], []), ([], []), ([0], []), ([], [])] qU (by kernel_rfl) rfl rfl ?_
 refine zag rfl rfl (qa rfl gM (ev1 rfl)) ?_
 refine zag rfl rfl (zaq rfl ku (ev1 rfl) rfl rfl) ?_
 refine zag rfl rfl (zal (.inl rfl) (ev1 rfl)) ?_
 refine zag rfl rfl (qw rfl (ev1 rfl) (fun s v h => by cases h; exact ⟨_, rfl⟩)) ?_
 refine zag rfl rfl (qa rfl kQ (ev1 rfl)) ?_
 refine zag rfl rfl (qa rfl yJ (ev1 rfl)) ?_
 refine zag rfl rfl (zaq rfl ku (ev1 rfl) rfl rfl) ?_
 refine zag rfl rfl (jY rfl (ev1 rfl) (ev1 rfl)) ?_
 refine qp ⟨_, _, _, rfl, qE [] [] [] rfl (ev1 rfl) (ec (ev1 rfl) (ec (ev1 rfl) en)) rfl rfl (j4 _ _ (by simp; omega)) rfl rfl rfl rfl rfl rfl, ?_⟩
 refine K3 [0, 1] rfl rfl ?_ ⟨rfl, qB rfl rfl (fun _ => rfl), trivial⟩
 rfl
theorem UY (p : PiM) (x : PcM) (hx : pcB x = true) (h2 : x.sn = p.sn) (h3 : x.mn ≠ p.mn) : DPan Tryz.prog 72 [.loc 0 0, .agg (pcD x)] [.mix 118 [.val (.int .u64 p.sn), .val (.int .i64 p.mn), .arr 1], .arx 30 1 (p.ps).length ((p.ps).flatMap fun b => [rwB b])] (.ifc 125 (.val (.agg #[.int .i64 311]))) [.mix 118 [.val (.int .u64 p.sn), .val (.int .i64 p.mn), .arr 1], .arx 30 1 (p.ps).length ((p.ps).flatMap fun b => [rwB b])] := by
 refine zap (N := 68) 2 (by kernel_rfl) Tryz.func72 rfl rfl rfl (by simp only [fr0, qau, qaw]; exact rfl) rfl fun s0 hs0 => ?_
 refine zae ?_
 refine zam 1 ?_
 refine zac ?_
 refine zaj rfl (qG 2 rfl (ev1 rfl) rfl) ?_
 refine zab ?_
 refine zah ?_
 refine za rfl (qo rfl kx (ev1 rfl) rfl rfl) ?_
 refine za rfl (zai [] [] [] rfl (ev1 rfl) (ec (ev1 rfl) en) rfl rfl (vL x) rfl rfl rfl rfl rfl rfl) ?_
 refine za rfl (qv rfl (ev1 rfl) (ev1 rfl)) ?_
 refine za rfl (zai [] [] [] rfl (ev1 rfl) (ec (ev1 rfl) (ec (ev1 rfl) en)) rfl rfl (kc _ _ (by rw [hx]; rfl)) rfl rfl rfl rfl rfl rfl) ?_
 refine zab ?_
 refine zae ?_
 refine qg [([], []), ([2], []), ([], []), ([], []), ([], []), ([], []), ([0], []), ([], []), ([], [])] qU (by kernel_rfl) ?_
 refine zag rfl rfl (qa rfl gM (ev1 rfl)) ?_
 refine zag rfl rfl (zaq rfl ku (ev1 rfl) rfl rfl) ?_
 refine zag rfl rfl (zal (.inl rfl) (ev1 rfl)) ?_
 refine zag rfl rfl (qw rfl (ev1 rfl) (fun s v h => by cases h; exact ⟨_, rfl⟩)) ?_
 refine zag rfl rfl (qa rfl kQ (ev1 rfl)) ?_
 refine zag rfl rfl (qa rfl yJ (ev1 rfl)) ?_
 refine zag rfl rfl (zaq rfl ku (ev1 rfl) rfl rfl) ?_
 refine zag rfl rfl (jY rfl (ev1 rfl) (ev1 rfl)) ?_
 refine zag rfl rfl (zai [] [] [] rfl (ev1 rfl) (ec (ev1 rfl) (ec (ev1 rfl) en)) rfl rfl (kc _ _ (by simp; omega)) rfl rfl rfl rfl rfl rfl) ?_
 refine qp ?_
 refine zae ?_
 refine zae ?_
 refine qg [([], []), ([2], []), ([], []), ([], []), ([], []), ([], []), ([0], []), ([], [])] qU (by kernel_rfl) ?_
 refine zag rfl rfl (qa rfl gM (ev1 rfl)) ?_
 refine zag rfl rfl (zaq rfl ku (ev1 rfl) rfl rfl) ?_
 refine zag rfl rfl (zal (.inl rfl) (ev1 rfl)) ?_
 refine zag rfl rfl (qw rfl (ev1 rfl) (fun s v h => by cases h; exact ⟨_, rfl⟩)) ?_
 refine zag rfl rfl (qa rfl kQ (ev1 rfl)) ?_
 refine zag rfl rfl (qa rfl yJ (ev1 rfl)) ?_
 refine zag rfl rfl (zaq rfl ku (ev1 rfl) rfl rfl) ?_
 refine zag rfl rfl (kE rfl (ev1 rfl) (ev1 rfl)) ?_
 refine qp ?_
 refine qc rfl (by simp; omega) ?_
 refine zao ?_
 refine zae ?_
 refine yz 8 [([], []), ([2], []), ([], []), ([], []), ([], []), ([], []), ([0], []), ([], [])] qU (by kernel_rfl) rfl rfl ?_
 refine zag rfl rfl (qa rfl gp (ev1 rfl)) ?_
 refine zag rfl rfl (zaq rfl tb3 (ev1 rfl) rfl rfl) ?_
 refine zag rfl rfl (zal (.inl rfl) (ev1 rfl)) ?_
 refine zag rfl rfl (qw rfl (ev1 rfl) (fun s v h => by cases h; exact ⟨_, rfl⟩)) ?_
 refine zag rfl rfl (qa rfl kQ (ev1 rfl)) ?_
 refine zag rfl rfl (qa rfl ub (ev1 rfl)) ?_
 refine zag rfl rfl (zaq rfl tb3 (ev1 rfl) rfl rfl) ?_
 refine zag rfl rfl (qv rfl (ev1 rfl) (ev1 rfl)) ?_
 refine qp ⟨_, _, _, rfl, qE [] [] [] rfl (ev1 rfl) (ec (ev1 rfl) (ec (ev1 rfl) en)) rfl rfl (j4 _ _ (by simpa using h3)) rfl rfl rfl rfl rfl rfl, ?_⟩
 refine K3 [0, 1] rfl rfl ?_ ⟨rfl, qB rfl rfl (fun _ => rfl), trivial⟩
 rfl
theorem UZ (p : PiM) (x : PcM) (hx : pcB x = true) (h2 : x.sn = p.sn) (h3 : x.mn = p.mn) (h4 : x.ix.toNat < p.ps.length) (h5 : emp p.ps[x.ix.toNat] = false) : DPan Tryz.prog 72 [.loc 0 0, .agg (pcD x)] [.mix 118 [.val (.int .u64 p.sn), .val (.int .i64 p.mn), .arr 1], .arx 30 1 (p.ps).length ((p.ps).flatMap fun b => [rwB b])] (.ifc 125 (.val (.agg #[.int .i64 5]))) [.mix 118 [.val (.int .u64 p.sn), .val (.int .i64 p.mn), .arr 1], .arx 30 1 (p.ps).length ((p.ps).flatMap fun b => [rwB b])] := by
 refine zap (N := 68) 2 (by kernel_rfl) Tryz.func72 rfl rfl rfl (by simp only [fr0, qau, qaw]; exact rfl) rfl fun s0 hs0 => ?_
 refine zae ?_
 have hpx := pcB_iff.1 hx
 refine zam 1 ?_
 refine zac ?_
 refine zaj rfl (qG 2 rfl (ev1 rfl) rfl) ?_
 refine zab ?_
 refine zah ?_
 refine za rfl (qo rfl kx (ev1 rfl) rfl rfl) ?_
 refine za rfl (zai [] [] [] rfl (ev1 rfl) (ec (ev1 rfl) en) rfl rfl (vL x) rfl rfl rfl rfl rfl rfl) ?_
 refine za rfl (qv rfl (ev1 rfl) (ev1 rfl)) ?_
 refine za rfl (zai [] [] [] rfl (ev1 rfl) (ec (ev1 rfl) (ec (ev1 rfl) en)) rfl rfl (kc _ _ (by rw [hx]; rfl)) rfl rfl rfl rfl rfl rfl) ?_
 refine zab ?_
 refine zae ?_
 refine qg [([], []), ([2], []), ([], []), ([], []), ([], []), ([], []), ([0], []), ([], []), ([], [])] qU (by kernel_rfl) ?_
 refine zag rfl rfl (qa rfl gM (ev1 rfl)) ?_
 refine zag rfl rfl (zaq rfl ku (ev1 rfl) rfl rfl) ?_
 refine zag rfl rfl (zal (.inl rfl) (ev1 rfl)) ?_
 refine zag rfl rfl (qw rfl (ev1 rfl) (fun s v h => by cases h; exact ⟨_, rfl⟩)) ?_
 refine zag rfl rfl (qa rfl kQ (ev1 rfl)) ?_
 refine zag rfl rfl (qa rfl yJ (ev1 rfl)) ?_
 refine zag rfl rfl (zaq rfl ku (ev1 rfl) rfl rfl) ?_
 refine zag rfl rfl (jY rfl (ev1 rfl) (ev1 rfl)) ?_
 refine zag rfl rfl (zai [] [] [] rfl (ev1 rfl) (ec (ev1 rfl) (ec (ev1 rfl) en)) rfl rfl (kc _ _ (by simp; omega)) rfl rfl rfl rfl rfl rfl) ?_
 refine qp ?_
 refine zae ?_
 refine zae ?_
 refine qg [([], []), ([2], []), ([], []), ([], []), ([], []), ([], []), ([0], []), ([], [])] qU (by kernel_rfl) ?_
 refine zag rfl rfl (qa rfl gM (ev1 rfl)) ?_
 refine zag rfl rfl (zaq rfl ku (ev1 rfl) rfl rfl) ?_
 refine zag rfl rfl (zal (.inl rfl) (ev1 rfl)) ?_
 refine zag rfl rfl (qw rfl (ev1 rfl) (fun s v h => by cases h; exact ⟨_, rfl⟩)) ?_
 refine zag rfl rfl (qa rfl kQ (ev1 rfl)) ?_
 refine zag rfl rfl (qa rfl yJ (ev1 rfl)) ?_
 refine zag rfl rfl (zaq rfl ku (ev1 rfl) rfl rfl) ?_
 refine zag rfl rfl (kE rfl (ev1 rfl) (ev1 rfl)) ?_
 refine qp ?_
 refine qc rfl (by simp; omega) ?_
 refine zao ?_
 refine zae ?_
 refine qg [([], []), ([2], []), ([], []), ([], []), ([], []), ([], []), ([0], []), ([], []), ([], [])] qU (by kernel_rfl) ?_
 refine zag rfl rfl (qa rfl gp (ev1 rfl)) ?_
 refine zag rfl rfl (zaq rfl tb3 (ev1 rfl) rfl rfl) ?_
 refine zag rfl rfl (zal (.inl rfl) (ev1 rfl)) ?_
 refine zag rfl rfl (qw rfl (ev1 rfl) (fun s v h => by cases h; exact ⟨_, rfl⟩)) ?_
 refine zag rfl rfl (qa rfl kQ (ev1 rfl)) ?_
 refine zag rfl rfl (qa rfl ub (ev1 rfl)) ?_
 refine zag rfl rfl (zaq rfl tb3 (ev1 rfl) rfl rfl) ?_
 refine zag rfl rfl (qv rfl (ev1 rfl) (ev1 rfl)) ?_
 refine zag rfl rfl (zai [] [] [] rfl (ev1 rfl) (ec (ev1 rfl) (ec (ev1 rfl) en)) rfl rfl (kc _ _ (by simpa using h3)) rfl rfl rfl rfl rfl rfl) ?_
 refine qp ?_
 refine zae ?_
 refine yz 11 [([], []), ([], []), ([], []), ([], []), ([0], []), ([], []), ([2], []), ([1], []), ([1], []), ([], []), ([], [])] qU (by kernel_rfl) rfl rfl ?_
 refine zag rfl rfl (zal (.inl rfl) (ev1 rfl)) ?_
 refine zag rfl rfl (qw rfl (ev1 rfl) (fun s v h => by cases h; exact ⟨_, rfl⟩)) ?_
 refine zag rfl rfl (qa rfl kQ (ev1 rfl)) ?_
 refine zag rfl rfl (qa rfl gU (ev1 rfl)) ?_
 refine zag rfl rfl (zaq rfl xh (ev1 rfl) rfl rfl) ?_
 refine zag rfl rfl (qa rfl yi (ev1 rfl)) ?_
 refine zag rfl rfl (zaq rfl tb3 (ev1 rfl) rfl rfl) ?_
 refine zag rfl rfl (vE (x.ix.toNat) rfl gJ (ev1 rfl) (ev1 rfl) rfl (fun _ => by omega) (fun _ => by omega)) ?_
 refine zag rfl rfl (Ys rfl kC (ev1 rfl) rfl (UV h4)) ?_
 refine zag rfl rfl (qt rfl qu (ev1 rfl)) ?_
 refine zag rfl rfl (qv rfl (ev1 rfl) (ev1 rfl)) ?_
 refine qp ⟨_, _, _, rfl, qE [] [] [] rfl (ev1 rfl) (ec (ev1 rfl) (ec (ev1 rfl) en)) rfl rfl (j4 _ _ (h5)) rfl rfl rfl rfl rfl rfl, ?_⟩
 refine K3 [0, 1] rfl rfl ?_ ⟨rfl, qB rfl rfl (fun _ => rfl), trivial⟩
 rfl
theorem HE (p : PiM) (x : PcM) (hx : pcB x = true) (h2 : x.sn = p.sn) (h3 : x.mn = p.mn) (h4 : x.ix.toNat < p.ps.length) (h5 : emp p.ps[x.ix.toNat] = true) : DFun Tryz.prog 72 [.loc 0 0, .agg (pcD x)] [.mix 118 [.val (.int .u64 p.sn), .val (.int .i64 p.mn), .arr 1], .arx 30 1 (p.ps).length ((p.ps).flatMap fun b => [rwB b])] (.tup []) [.mix 118 [.val (.int .u64 p.sn), .val (.int .i64 p.mn), .arr 1], .arx 30 1 p.ps.length ((p.ps.set x.ix.toNat x.b).flatMap fun b => [rwB b])] := by
 refine zap (N := 68) 2 (by kernel_rfl) Tryz.func72 rfl rfl rfl (by simp only [fr0, qau, qaw]; exact rfl) rfl fun s0 hs0 => ?_
 refine zae ?_
 have hpx := pcB_iff.1 hx
 refine zam 1 ?_
 refine zac ?_
 refine zaj rfl (qG 2 rfl (ev1 rfl) rfl) ?_
 refine zab ?_
 refine zah ?_
 refine za rfl (qo rfl kx (ev1 rfl) rfl rfl) ?_
 refine za rfl (zai [] [] [] rfl (ev1 rfl) (ec (ev1 rfl) en) rfl rfl (vL x) rfl rfl rfl rfl rfl rfl) ?_
 refine za rfl (qv rfl (ev1 rfl) (ev1 rfl)) ?_
 refine za rfl (zai [] [] [] rfl (ev1 rfl) (ec (ev1 rfl) (ec (ev1 rfl) en)) rfl rfl (kc _ _ (by rw [hx]; rfl)) rfl rfl rfl rfl rfl rfl) ?_
 refine zab ?_
 refine zae ?_
 refine qg [([], []), ([2], []), ([], []), ([], []), ([], []), ([], []), ([0], []), ([], []), ([], [])] qU (by kernel_rfl) ?_
 refine zag rfl rfl (qa rfl gM (ev1 rfl)) ?_
 refine zag rfl rfl (zaq rfl ku (ev1 rfl) rfl rfl) ?_
 refine zag rfl rfl (zal (.inl rfl) (ev1 rfl)) ?_
 refine zag rfl rfl (qw rfl (ev1 rfl) (fun s v h => by cases h; exact ⟨_, rfl⟩)) ?_
 refine zag rfl rfl (qa rfl kQ (ev1 rfl)) ?_
 refine zag rfl rfl (qa rfl yJ (ev1 rfl)) ?_
 refine zag rfl rfl (zaq rfl ku (ev1 rfl) rfl rfl) ?_
 refine zag rfl rfl (jY rfl (ev1 rfl) (ev1 rfl)) ?_
 refine zag rfl rfl (zai [] [] [] rfl (ev1 rfl) (ec (ev1 rfl) (ec (ev1 rfl) en)) rfl rfl (kc _ _ (by simp; omega)) rfl rfl rfl rfl rfl rfl) ?_
 refine qp ?_
 refine zae ?_
 refine zae ?_
 refine qg [([], []), ([2], []), ([], []), ([], []), ([], []), ([], []), ([0], []), ([], [])] qU (by kernel_rfl) ?_
 refine zag rfl rfl (qa rfl gM (ev1 rfl)) ?_
 refine zag rfl rfl (zaq rfl ku (ev1 rfl) rfl rfl) ?_
 refine zag rfl rfl (zal (.inl rfl) (ev1 rfl)) ?_
 refine zag rfl rfl (qw rfl (ev1 rfl) (fun s v h => by cases h; exact ⟨_, rfl⟩)) ?_
 refine zag rfl rfl (qa rfl kQ (ev1 rfl)) ?_
 refine zag rfl rfl (qa rfl yJ (ev1 rfl)) ?_
 refine zag rfl rfl (zaq rfl ku (ev1 rfl) rfl rfl) ?_
 refine zag rfl rfl (kE rfl (ev1 rfl) (ev1 rfl)) ?_
 refine qp ?_
 refine qc rfl (by simp; omega) ?_
 refine zao ?_
 refine zae ?_
 refine qg [([], []), ([2], []), ([], []), ([], []), ([], []), ([], []), ([0], []), ([], []), ([], [])] qU (by kernel_rfl) ?_
 refine zag rfl rfl (qa rfl gp (ev1 rfl)) ?_
 refine zag rfl rfl (zaq rfl tb3 (ev1 rfl) rfl rfl) ?_
 refine zag rfl rfl (zal (.inl rfl) (ev1 rfl)) ?_
 refine zag rfl rfl (qw rfl (ev1 rfl) (fun s v h => by cases h; exact ⟨_, rfl⟩)) ?_
 refine zag rfl rfl (qa rfl kQ (ev1 rfl)) ?_
 refine zag rfl rfl (qa rfl ub (ev1 rfl)) ?_
 refine zag rfl rfl (zaq rfl tb3 (ev1 rfl) rfl rfl) ?_
 refine zag rfl rfl (qv rfl (ev1 rfl) (ev1 rfl)) ?_
 refine zag rfl rfl (zai [] [] [] rfl (ev1 rfl) (ec (ev1 rfl) (ec (ev1 rfl) en)) rfl rfl (kc _ _ (by simpa using h3)) rfl rfl rfl rfl rfl rfl) ?_
 refine qp ?_
 refine zae ?_
 refine qg [([], []), ([], []), ([], []), ([], []), ([0], []), ([], []), ([2], []), ([1], []), ([1], []), ([], []), ([], []), ([], [])] qU (by kernel_rfl) ?_
 refine zag rfl rfl (zal (.inl rfl) (ev1 rfl)) ?_
 refine zag rfl rfl (qw rfl (ev1 rfl) (fun s v h => by cases h; exact ⟨_, rfl⟩)) ?_
 refine zag rfl rfl (qa rfl kQ (ev1 rfl)) ?_
 refine zag rfl rfl (qa rfl gU (ev1 rfl)) ?_
 refine zag rfl rfl (zaq rfl xh (ev1 rfl) rfl rfl) ?_
 refine zag rfl rfl (qa rfl yi (ev1 rfl)) ?_
 refine zag rfl rfl (zaq rfl tb3 (ev1 rfl) rfl rfl) ?_
 refine zag rfl rfl (vE (x.ix.toNat) rfl gJ (ev1 rfl) (ev1 rfl) rfl (fun _ => by omega) (fun _ => by omega)) ?_
 refine zag rfl rfl (Ys rfl kC (ev1 rfl) rfl (UV h4)) ?_
 refine zag rfl rfl (qt rfl qu (ev1 rfl)) ?_
 refine zag rfl rfl (qv rfl (ev1 rfl) (ev1 rfl)) ?_
 refine zag rfl rfl (zai [] [] [] rfl (ev1 rfl) (ec (ev1 rfl) (ec (ev1 rfl) en)) rfl rfl (kc _ _ (h5)) rfl rfl rfl rfl rfl rfl) ?_
 refine qp ?_
 refine qg [([], []), ([], []), ([], []), ([], []), ([0], []), ([], []), ([2], []), ([], []), ([2], []), ([], []), ([1], []), ([1], [1])] qU (by kernel_rfl) ?_
 refine zag rfl rfl (zal (.inl rfl) (ev1 rfl)) ?_
 refine zag rfl rfl (qw rfl (ev1 rfl) (fun s v h => by cases h; exact ⟨_, rfl⟩)) ?_
 refine zag rfl rfl (qa rfl kQ (ev1 rfl)) ?_
 refine zag rfl rfl (qa rfl gU (ev1 rfl)) ?_
 refine zag rfl rfl (zaq rfl xh (ev1 rfl) rfl rfl) ?_
 refine zag rfl rfl (qa rfl yi (ev1 rfl)) ?_
 refine zag rfl rfl (zaq rfl tb3 (ev1 rfl) rfl rfl) ?_
 refine zag rfl rfl (qa rfl vK (ev1 rfl)) ?_
 refine zag rfl rfl (zaq rfl kC (ev1 rfl) rfl rfl) ?_
 refine zag rfl rfl (zai [] [] [] rfl (ev1 rfl) (ec (ev1 rfl) en) rfl rfl (jP x.b (by omega)) rfl rfl rfl rfl rfl rfl) ?_
 refine zag rfl rfl (vE (x.ix.toNat) rfl gJ (ev1 rfl) (ev1 rfl) rfl (fun _ => by omega) (fun _ => by omega)) ?_
 refine gt rfl rfl (Jh (j := x.ix.toNat) (g := rwB) (q := x.b) rfl kC (ev1 rfl) (ev1 rfl) rfl (by omega) (fun s v h => by cases h <;> exact ⟨rfl, rfl⟩)) rfl (by simp only [upd, zad, zaf]; exact rfl) ?_
 refine qp ?_
 refine qY [0, 1] (qF rfl) rfl rfl ?_ ⟨?_, ?_, trivial⟩
 rfl
 rfl
 exact qB rfl rfl (fun _ => rfl)
theorem HF (p : PiM) (x : PcM) (hx : pcB x = true) (h2 : p.sn < x.sn) : DFun Tryz.prog 72 [.loc 0 0, .agg (pcD x)] [.mix 118 [.val (.int .u64 p.sn), .val (.int .i64 p.mn), .arr 1], .arx 30 1 (p.ps).length ((p.ps).flatMap fun b => [rwB b])] (.tup []) [.mix 118 [.val (.int .u64 x.sn), .val (.int .i64 x.mn), .arr 2], .arx 30 1 (p.ps).length ((p.ps).flatMap fun b => [rwB b]), .arx 30 1 x.mn.toNat (((qaJ x.mn.toNat ([] : List Int)).set x.ix.toNat x.b).flatMap fun b => [rwB b])] := by
 refine zap (N := 68) 2 (by kernel_rfl) Tryz.func72 rfl rfl rfl (by simp only [fr0, qau, qaw]; exact rfl) rfl fun s0 hs0 => ?_
 refine zae ?_
 have hpx := pcB_iff.1 hx
 refine zam 1 ?_
 refine zac ?_
 refine zaj rfl (qG 2 rfl (ev1 rfl) rfl) ?_
 refine zab ?_
 refine zah ?_
 refine za rfl (qo rfl kx (ev1 rfl) rfl rfl) ?_
 refine za rfl (zai [] [] [] rfl (ev1 rfl) (ec (ev1 rfl) en) rfl rfl (vL x) rfl rfl rfl rfl rfl rfl) ?_
 refine za rfl (qv rfl (ev1 rfl) (ev1 rfl)) ?_
 refine za rfl (zai [] [] [] rfl (ev1 rfl) (ec (ev1 rfl) (ec (ev1 rfl) en)) rfl rfl (kc _ _ (by rw [hx]; rfl)) rfl rfl rfl rfl rfl rfl) ?_
 refine zab ?_
 refine zae ?_
 refine qg [([], []), ([2], []), ([], []), ([], []), ([], []), ([], []), ([0], []), ([], []), ([], [])] qU (by kernel_rfl) ?_
 refine zag rfl rfl (qa rfl gM (ev1 rfl)) ?_
 refine zag rfl rfl (zaq rfl ku (ev1 rfl) rfl rfl) ?_
 refine zag rfl rfl (zal (.inl rfl) (ev1 rfl)) ?_
 refine zag rfl rfl (qw rfl (ev1 rfl) (fun s v h => by cases h; exact ⟨_, rfl⟩)) ?_
 refine zag rfl rfl (qa rfl kQ (ev1 rfl)) ?_
 refine zag rfl rfl (qa rfl yJ (ev1 rfl)) ?_
 refine zag rfl rfl (zaq rfl ku (ev1 rfl) rfl rfl) ?_
 refine zag rfl rfl (jY rfl (ev1 rfl) (ev1 rfl)) ?_
 refine zag rfl rfl (zai [] [] [] rfl (ev1 rfl) (ec (ev1 rfl) (ec (ev1 rfl) en)) rfl rfl (kc _ _ (by simp; omega)) rfl rfl rfl rfl rfl rfl) ?_
 refine qp ?_
 refine zae ?_
 refine zae ?_
 refine qg [([], []), ([2], []), ([], []), ([], []), ([], []), ([], []), ([0], []), ([], [])] qU (by kernel_rfl) ?_
 refine zag rfl rfl (qa rfl gM (ev1 rfl)) ?_
 refine zag rfl rfl (zaq rfl ku (ev1 rfl) rfl rfl) ?_
 refine zag rfl rfl (zal (.inl rfl) (ev1 rfl)) ?_
 refine zag rfl rfl (qw rfl (ev1 rfl) (fun s v h => by cases h; exact ⟨_, rfl⟩)) ?_
 refine zag rfl rfl (qa rfl kQ (ev1 rfl)) ?_
 refine zag rfl rfl (qa rfl yJ (ev1 rfl)) ?_
 refine zag rfl rfl (zaq rfl ku (ev1 rfl) rfl rfl) ?_
 refine zag rfl rfl (kE rfl (ev1 rfl) (ev1 rfl)) ?_
 refine qp ?_
 refine qM rfl (by simp; omega) ?_
 refine zam 1 ?_
 refine qg [([], []), ([], []), ([2], []), ([], []), ([2], []), ([], []), ([2], []), ([3], [3]), ([], []), ([], []), ([], []), ([0], [0])] qU (by kernel_rfl) ?_
 refine zag rfl rfl (zal (.inl rfl) (ev1 rfl)) ?_
 refine zag rfl rfl (qa rfl gM (ev1 rfl)) ?_
 refine zag rfl rfl (zaq rfl ku (ev1 rfl) rfl rfl) ?_
 refine zag rfl rfl (qa rfl gp (ev1 rfl)) ?_
 refine zag rfl rfl (zaq rfl tb3 (ev1 rfl) rfl rfl) ?_
 refine zag rfl rfl (qa rfl gp (ev1 rfl)) ?_
 refine zag rfl rfl (zaq rfl tb3 (ev1 rfl) rfl rfl) ?_
 refine gf rfl rfl (Yy 3 (x.mn.toNat) (.slice none 0 0) rfl gJ W7 (rfl) (by decide) (ev1 rfl) (ev1 rfl) (fun _ => by omega) (fun _ => by omega) rfl (fun _ => by omega)) rfl (by simp only [upd, zad, zaf]; exact rfl) ?_
 refine zag rfl rfl (kX (ps := [(0, .tmp 27), (1, .tmp 29), (2, .tmp 32)]) rfl fl61 xE (ec (ev1 rfl) (ec (ev1 rfl) (ec (ev1 rfl) en))) rfl rfl rfl) ?_
 refine zag rfl rfl (qw rfl (ev1 rfl) (fun s v h => by cases h; exact ⟨_, rfl⟩)) ?_
 refine zag rfl rfl (qa rfl kQ (ev1 rfl)) ?_
 refine gt rfl rfl (Jb rfl jt (ev1 rfl) (ev1 rfl) rfl rfl rfl rfl) rfl (by simp only [upd, zad, zaf]; exact rfl) ?_
 refine qp ?_
 refine zae ?_
 refine jf 3 GU rfl rfl (by simp only [qaE, qaH, zad, zaf, List.map]; exact rfl) ?_
 refine qg [([], []), ([2], []), ([], []), ([], []), ([], []), ([], []), ([0], []), ([], []), ([], [])] qU (by kernel_rfl) ?_
 refine zag rfl rfl (qa rfl gp (ev1 rfl)) ?_
 refine zag rfl rfl (zaq rfl tb3 (ev1 rfl) rfl rfl) ?_
 refine zag rfl rfl (zal (.inl rfl) (ev1 rfl)) ?_
 refine zag rfl rfl (qw rfl (ev1 rfl) (fun s v h => by cases h; exact ⟨_, rfl⟩)) ?_
 refine zag rfl rfl (qa rfl kQ (ev1 rfl)) ?_
 refine zag rfl rfl (qa rfl ub (ev1 rfl)) ?_
 refine zag rfl rfl (zaq rfl tb3 (ev1 rfl) rfl rfl) ?_
 refine zag rfl rfl (qv rfl (ev1 rfl) (ev1 rfl)) ?_
 refine zag rfl rfl (zai [] [] [] rfl (ev1 rfl) (ec (ev1 rfl) (ec (ev1 rfl) en)) rfl rfl (kc _ _ (by simp)) rfl rfl rfl rfl rfl rfl) ?_
 refine qp ?_
 refine zae ?_
 refine qg [([], []), ([], []), ([], []), ([], []), ([0], []), ([], []), ([2], []), ([3], []), ([3], []), ([], []), ([], []), ([], [])] qU (by kernel_rfl) ?_
 refine zag rfl rfl (zal (.inl rfl) (ev1 rfl)) ?_
 refine zag rfl rfl (qw rfl (ev1 rfl) (fun s v h => by cases h; exact ⟨_, rfl⟩)) ?_
 refine zag rfl rfl (qa rfl kQ (ev1 rfl)) ?_
 refine zag rfl rfl (qa rfl gU (ev1 rfl)) ?_
 refine zag rfl rfl (zaq rfl xh (ev1 rfl) rfl rfl) ?_
 refine zag rfl rfl (qa rfl yi (ev1 rfl)) ?_
 refine zag rfl rfl (zaq rfl tb3 (ev1 rfl) rfl rfl) ?_
 refine zag rfl rfl (vE (x.ix.toNat) rfl gJ (ev1 rfl) (ev1 rfl) rfl (fun _ => by omega) (fun _ => by rw [qaS]; omega)) ?_
 refine zag rfl rfl (Ys rfl kC (ev1 rfl) rfl (UV (by rw [qaS]; omega))) ?_
 refine zag rfl rfl (qt rfl qu (ev1 rfl)) ?_
 refine zag rfl rfl (qv rfl (ev1 rfl) (ev1 rfl)) ?_
 refine zag rfl rfl (zai [] [] [] rfl (ev1 rfl) (ec (ev1 rfl) (ec (ev1 rfl) en)) rfl rfl (kc _ _ (by rw [List.getElem_replicate]; rfl)) rfl rfl rfl rfl rfl rfl) ?_
 refine qp ?_
 refine qg [([], []), ([], []), ([], []), ([], []), ([0], []), ([], []), ([2], []), ([], []), ([2], []), ([], []), ([3], []), ([3], [3])] qU (by kernel_rfl) ?_
 refine zag rfl rfl (zal (.inl rfl) (ev1 rfl)) ?_
 refine zag rfl rfl (qw rfl (ev1 rfl) (fun s v h => by cases h; exact ⟨_, rfl⟩)) ?_
 refine zag rfl rfl (qa rfl kQ (ev1 rfl)) ?_
 refine zag rfl rfl (qa rfl gU (ev1 rfl)) ?_
 refine zag rfl rfl (zaq rfl xh (ev1 rfl) rfl rfl) ?_
 refine zag rfl rfl (qa rfl yi (ev1 rfl)) ?_
 refine zag rfl rfl (zaq rfl tb3 (ev1 rfl) rfl rfl) ?_
 refine zag rfl rfl (qa rfl vK (ev1 rfl)) ?_
 refine zag rfl rfl (zaq rfl kC (ev1 rfl) rfl rfl) ?_
 refine zag rfl rfl (zai [] [] [] rfl (ev1 rfl) (ec (ev1 rfl) en) rfl rfl (jP x.b (by omega)) rfl rfl rfl rfl rfl rfl) ?_
 refine zag rfl rfl (vE (x.ix.toNat) rfl gJ (ev1 rfl) (ev1 rfl) rfl (fun _ => by omega) (fun _ => by rw [qaS]; omega)) ?_
 refine gt rfl rfl (Jh (j := x.ix.toNat) (g := rwB) (q := x.b) rfl kC (ev1 rfl) (ev1 rfl) rfl (by rw [qaS]; omega) (fun s v h => by cases h <;> exact ⟨rfl, rfl⟩)) rfl (by simp only [upd, zad, zaf]; exact rfl) ?_
 refine qp ?_
 refine qY [0, 1, 3] (qF rfl) rfl rfl ?_ ⟨?_, ?_, ?_, trivial⟩
 rfl
 rfl
 exact qB rfl rfl (fun _ => rfl)
 exact qB (qaS ..) rfl (fun _ => rfl)
end Go.Proofs.YtofklkbfkoliiaaGreat
namespace Go.Proofs.YtofklkbfkoliiaaGreat
set_option linter.unusedVariables false
set_option linter.unusedSimpArgs false
open Go.RowKit
attribute [local irreducible] tkN jK ky
theorem KP (e : Int) : DDef Tryz.prog 104 [.loc 0 0] [.flat 34 [.int .i64 e]] none none [.flat 34 [.int .i64 0]] := by
 refine k5 (dr := .tup []) (t := 1) (N := 3) 1 (by kernel_rfl) Tryz.func104 rfl rfl rfl (by simp only [fr0, qau, qaw]; exact rfl) rfl rfl rfl rfl rfl fun s0 hs0 => ?_
 refine za rfl (zai [] [] [] rfl (ev1 rfl) (ec (ev1 rfl) en) rfl rfl (yI) rfl rfl rfl rfl rfl rfl) ?_
 refine zar rfl (qH rfl qT (ev1 rfl) (ev1 rfl) rfl) ?_
 refine zab ?_
 refine qY [0] (qF rfl) rfl rfl ?_ ⟨rfl, trivial⟩
 rfl
theorem yX (e n : Int) : DDef Tryz.prog 104 [.loc 0 0] [.flat 34 [.int .i64 e]] (some (.ifc 125 (.val (.agg #[.int .i64 n])))) none [.flat 34 [.int .i64 n]] := by
 refine k5 (dr := .tup []) (t := 1) (N := 3) 1 (by kernel_rfl) Tryz.func104 rfl rfl rfl (by simp only [fr0, qau, qaw]; exact rfl) rfl rfl rfl rfl rfl fun s0 hs0 => ?_
 refine za rfl (zai [] [] [] rfl (ev1 rfl) (ec (ev1 rfl) en) rfl rfl (wB n) rfl rfl rfl rfl rfl rfl) ?_
 refine zar rfl (qH rfl qT (ev1 rfl) (ev1 rfl) rfl) ?_
 refine zab ?_
 refine qY [0] (qF rfl) rfl rfl ?_ ⟨rfl, trivial⟩
 rfl
theorem zN (e : Int) : DDef Tryz.prog 70 [.loc 0 0] [.flat 34 [.int .i64 e]] none none [.flat 34 [.int .i64 0]] := by
 refine k5 (dr := .tup []) (t := 1) (N := 3) 1 (by kernel_rfl) Tryz.func70 rfl rfl rfl (by simp only [fr0, qau, qaw]; exact rfl) rfl rfl rfl rfl rfl fun s0 hs0 => ?_
 refine za rfl (zai [] [] [] rfl (ev1 rfl) (ec (ev1 rfl) en) rfl rfl (yI) rfl rfl rfl rfl rfl rfl) ?_
 refine zar rfl (qH rfl qT (ev1 rfl) (ev1 rfl) rfl) ?_
 refine zab ?_
 refine qY [0] (qF rfl) rfl rfl ?_ ⟨rfl, trivial⟩
 rfl
theorem yu (e n : Int) : DDef Tryz.prog 70 [.loc 0 0] [.flat 34 [.int .i64 e]] (some (.ifc 125 (.val (.agg #[.int .i64 n])))) none [.flat 34 [.int .i64 n]] := by
 refine k5 (dr := .tup []) (t := 1) (N := 3) 1 (by kernel_rfl) Tryz.func70 rfl rfl rfl (by simp only [fr0, qau, qaw]; exact rfl) rfl rfl rfl rfl rfl fun s0 hs0 => ?_
 refine za rfl (zai [] [] [] rfl (ev1 rfl) (ec (ev1 rfl) en) rfl rfl (wB n) rfl rfl rfl rfl rfl rfl) ?_
 refine zar rfl (qH rfl qT (ev1 rfl) (ev1 rfl) rfl) ?_
 refine zab ?_
 refine qY [0] (qF rfl) rfl rfl ?_ ⟨rfl, trivial⟩
 rfl
theorem GV (e : Int) : DDef Tryz.prog 75 [.loc 0 0] [.flat 34 [.int .i64 e]] none none [.flat 34 [.int .i64 0]] := by
 refine k5 (dr := .tup []) (t := 1) (N := 3) 1 (by kernel_rfl) Tryz.func75 rfl rfl rfl (by simp only [fr0, qau, qaw]; exact rfl) rfl rfl rfl rfl rfl fun s0 hs0 => ?_
 refine za rfl (zai [] [] [] rfl (ev1 rfl) (ec (ev1 rfl) en) rfl rfl (yI) rfl rfl rfl rfl rfl rfl) ?_
 refine zar rfl (qH rfl qT (ev1 rfl) (ev1 rfl) rfl) ?_
 refine zab ?_
 refine qY [0] (qF rfl) rfl rfl ?_ ⟨rfl, trivial⟩
 rfl
theorem zP (e : Int) : DDef Tryz.prog 63 [.loc 0 0] [.flat 34 [.int .i64 e]] none none [.flat 34 [.int .i64 0]] := by
 refine k5 (dr := .tup []) (t := 1) (N := 3) 1 (by kernel_rfl) Tryz.func63 rfl rfl rfl (by simp only [fr0, qau, qaw]; exact rfl) rfl rfl rfl rfl rfl fun s0 hs0 => ?_
 refine za rfl (zai [] [] [] rfl (ev1 rfl) (ec (ev1 rfl) en) rfl rfl (yI) rfl rfl rfl rfl rfl rfl) ?_
 refine zar rfl (qH rfl qT (ev1 rfl) (ev1 rfl) rfl) ?_
 refine zab ?_
 refine qY [0] (qF rfl) rfl rfl ?_ ⟨rfl, trivial⟩
 rfl
theorem uS (e n : Int) : DDef Tryz.prog 63 [.loc 0 0] [.flat 34 [.int .i64 e]] (some (.ifc 125 (.val (.agg #[.int .i64 n])))) none [.flat 34 [.int .i64 n]] := by
 refine k5 (dr := .tup []) (t := 1) (N := 3) 1 (by kernel_rfl) Tryz.func63 rfl rfl rfl (by simp only [fr0, qau, qaw]; exact rfl) rfl rfl rfl rfl rfl fun s0 hs0 => ?_
 refine za rfl (zai [] [] [] rfl (ev1 rfl) (ec (ev1 rfl) en) rfl rfl (wB n) rfl rfl rfl rfl rfl rfl) ?_
 refine zar rfl (qH rfl qT (ev1 rfl) (ev1 rfl) rfl) ?_
 refine zab ?_
 refine qY [0] (qF rfl) rfl rfl ?_ ⟨rfl, trivial⟩
 rfl
theorem Jz (e : Int) : DDef Tryz.prog 67 [.loc 0 0] [.flat 34 [.int .i64 e]] none none [.flat 34 [.int .i64 0]] := by
 refine k5 (dr := .tup []) (t := 1) (N := 3) 1 (by kernel_rfl) Tryz.func67 rfl rfl rfl (by simp only [fr0, qau, qaw]; exact rfl) rfl rfl rfl rfl rfl fun s0 hs0 => ?_
 refine za rfl (zai [] [] [] rfl (ev1 rfl) (ec (ev1 rfl) en) rfl rfl (yI) rfl rfl rfl rfl rfl rfl) ?_
 refine zar rfl (qH rfl qT (ev1 rfl) (ev1 rfl) rfl) ?_
 refine zab ?_
 refine qY [0] (qF rfl) rfl rfl ?_ ⟨rfl, trivial⟩
 rfl
theorem yL (e n : Int) : DDef Tryz.prog 67 [.loc 0 0] [.flat 34 [.int .i64 e]] (some (.ifc 125 (.val (.agg #[.int .i64 n])))) none [.flat 34 [.int .i64 n]] := by
 refine k5 (dr := .tup []) (t := 1) (N := 3) 1 (by kernel_rfl) Tryz.func67 rfl rfl rfl (by simp only [fr0, qau, qaw]; exact rfl) rfl rfl rfl rfl rfl fun s0 hs0 => ?_
 refine za rfl (zai [] [] [] rfl (ev1 rfl) (ec (ev1 rfl) en) rfl rfl (wB n) rfl rfl rfl rfl rfl rfl) ?_
 refine zar rfl (qH rfl qT (ev1 rfl) (ev1 rfl) rfl) ?_
 refine zab ?_
 refine qY [0] (qF rfl) rfl rfl ?_ ⟨rfl, trivial⟩
 rfl
theorem JA (e : Int) : DDef Tryz.prog 45 [.loc 0 0] [.flat 34 [.int .i64 e]] none none [.flat 34 [.int .i64 0]] := by
 refine k5 (dr := .tup []) (t := 1) (N := 3) 1 (by kernel_rfl) Tryz.func45 rfl rfl rfl (by simp only [fr0, qau, qaw]; exact rfl) rfl rfl rfl rfl rfl fun s0 hs0 => ?_
 refine za rfl (zai [] [] [] rfl (ev1 rfl) (ec (ev1 rfl) en) rfl rfl (yI) rfl rfl rfl rfl rfl rfl) ?_
 refine zar rfl (qH rfl qT (ev1 rfl) (ev1 rfl) rfl) ?_
 refine zab ?_
 refine qY [0] (qF rfl) rfl rfl ?_ ⟨rfl, trivial⟩
 rfl
theorem A6 (p : PiM) (x : PcM) (hx : pcB x = false) : DFun Tryz.prog 76 [.loc 0 0, .agg (pcD x)] [.mix 118 [.val (.int .u64 p.sn), .val (.int .i64 p.mn), .arr 1], .arx 30 1 (p.ps).length ((p.ps).flatMap fun b => [rwB b])] (.val (.int .i64 311)) [.mix 118 [.val (.int .u64 p.sn), .val (.int .i64 p.mn), .arr 1], .arx 30 1 (p.ps).length ((p.ps).flatMap fun b => [rwB b])] := by
 refine qj (N := 9) 2 (by kernel_rfl) Tryz.func76 rfl rfl rfl (by simp only [fr0, qau, qaw]; exact rfl) rfl fun s0 hs0 => ?_
 refine qD rfl hs0 ?_
 refine zam 2 ?_
 refine zac ?_
 refine zaj rfl (qG 2 rfl (ev1 rfl) rfl) ?_
 refine zaj rfl (zan 3 rfl jO rfl) ?_
 refine zab ?_
 refine qn (l0 := [_]) rfl rfl rfl rfl rfl hs0 ?_
 refine za rfl (qV rfl en (ec (ev1 rfl) en)) ?_
 refine zab ⟨_, _, _, 4, ev1 rfl, qaM hs0 (by decide), rfl, ?_⟩
 have hs1 : s0.M.length ≤ 4 := qaM hs0 (by decide)
 refine qC rfl hs0 ?_
 refine zah ?_
 refine zaa 1 rfl ?_
 refine za rfl (qo rfl kx (ev1 rfl) rfl rfl) ?_
 refine qZ rfl (qE [0, 1] [] [] rfl (ev1 rfl) (ec (ev1 rfl) (ec (ev1 rfl) en)) rfl (by exact jw _ _ ⟨rfl, (by first | exact rfl | exact arx_fits rfl rfl (vwL_flat (fun _ => rfl) _) | exact km rfl rfl (ql (fun _ => rfl) _) | exact qB rfl rfl (fun _ => rfl) | exact qO rfl rfl (fun _ => rfl)), trivial⟩) (UW p x hx) rfl rfl rfl (by exact (wrc rfl (wrc (by first | exact rfl | exact kK (fun _ => rfl) | exact ke (ql (fun _ => rfl) _) | exact kg (fun _ => rfl) | exact ki (fun _ => rfl)) rfl))) rfl rfl) rfl ?_
 refine jI (qL [3] [] rfl rfl rfl (yX _ _) rfl rfl rfl rfl rfl) ?_
 refine qY [0, 1] (rs1 rfl (js qT rfl rfl rfl)) rfl rfl ?_ ⟨rfl, qB rfl rfl (fun _ => rfl), trivial⟩
 rfl
theorem A7 (p : PiM) (x : PcM) (hx : pcB x = true) (h2 : x.sn < p.sn) : DFun Tryz.prog 76 [.loc 0 0, .agg (pcD x)] [.mix 118 [.val (.int .u64 p.sn), .val (.int .i64 p.mn), .arr 1], .arx 30 1 (p.ps).length ((p.ps).flatMap fun b => [rwB b])] (.val (.int .i64 241)) [.mix 118 [.val (.int .u64 p.sn), .val (.int .i64 p.mn), .arr 1], .arx 30 1 (p.ps).length ((p.ps).flatMap fun b => [rwB b])] := by
 refine qj (N := 9) 2 (by kernel_rfl) Tryz.func76 rfl rfl rfl (by simp only [fr0, qau, qaw]; exact rfl) rfl fun s0 hs0 => ?_
 refine qD rfl hs0 ?_
 refine zam 2 ?_
 refine zac ?_
 refine zaj rfl (qG 2 rfl (ev1 rfl) rfl) ?_
 refine zaj rfl (zan 3 rfl jO rfl) ?_
 refine zab ?_
 refine qn (l0 := [_]) rfl rfl rfl rfl rfl hs0 ?_
 refine za rfl (qV rfl en (ec (ev1 rfl) en)) ?_
 refine zab ⟨_, _, _, 4, ev1 rfl, qaM hs0 (by decide), rfl, ?_⟩
 have hs1 : s0.M.length ≤ 4 := qaM hs0 (by decide)
 refine qC rfl hs0 ?_
 refine zah ?_
 refine zaa 1 rfl ?_
 refine za rfl (qo rfl kx (ev1 rfl) rfl rfl) ?_
 refine qZ rfl (qE [0, 1] [] [] rfl (ev1 rfl) (ec (ev1 rfl) (ec (ev1 rfl) en)) rfl (by exact jw _ _ ⟨rfl, (by first | exact rfl | exact arx_fits rfl rfl (vwL_flat (fun _ => rfl) _) | exact km rfl rfl (ql (fun _ => rfl) _) | exact qB rfl rfl (fun _ => rfl) | exact qO rfl rfl (fun _ => rfl)), trivial⟩) (UX p x hx h2) rfl rfl rfl (by exact (wrc rfl (wrc (by first | exact rfl | exact kK (fun _ => rfl) | exact ke (ql (fun _ => rfl) _) | exact kg (fun _ => rfl) | exact ki (fun _ => rfl)) rfl))) rfl rfl) rfl ?_
 refine jI (qL [3] [] rfl rfl rfl (yX _ _) rfl rfl rfl rfl rfl) ?_
 refine qY [0, 1] (rs1 rfl (js qT rfl rfl rfl)) rfl rfl ?_ ⟨rfl, qB rfl rfl (fun _ => rfl), trivial⟩
 rfl
theorem A8 (p : PiM) (x : PcM) (hx : pcB x = true) (h2 : x.sn = p.sn) (h3 : x.mn ≠ p.mn) : DFun Tryz.prog 76 [.loc 0 0, .agg (pcD x)] [.mix 118 [.val (.int .u64 p.sn), .val (.int .i64 p.mn), .arr 1], .arx 30 1 (p.ps).length ((p.ps).flatMap fun b => [rwB b])] (.val (.int .i64 311)) [.mix 118 [.val (.int .u64 p.sn), .val (.int .i64 p.mn), .arr 1], .arx 30 1 (p.ps).length ((p.ps).flatMap fun b => [rwB b])] := by
 refine qj (N := 9) 2 (by kernel_rfl) Tryz.func76 rfl rfl rfl (by simp only [fr0, qau, qaw]; exact rfl) rfl fun s0 hs0 => ?_
 refine qD rfl hs0 ?_
 refine zam 2 ?_
 refine zac ?_
 refine zaj rfl (qG 2 rfl (ev1 rfl) rfl) ?_
 refine zaj rfl (zan 3 rfl jO rfl) ?_
 refine zab ?_
 refine qn (l0 := [_]) rfl rfl rfl rfl rfl hs0 ?_
 refine za rfl (qV rfl en (ec (ev1 rfl) en)) ?_
 refine zab ⟨_, _, _, 4, ev1 rfl, qaM hs0 (by decide), rfl, ?_⟩
 have hs1 : s0.M.length ≤ 4 := qaM hs0 (by decide)
 refine qC rfl hs0 ?_
 refine zah ?_
 refine zaa 1 rfl ?_
 refine za rfl (qo rfl kx (ev1 rfl) rfl rfl) ?_
 refine qZ rfl (qE [0, 1] [] [] rfl (ev1 rfl) (ec (ev1 rfl) (ec (ev1 rfl) en)) rfl (by exact jw _ _ ⟨rfl, (by first | exact rfl | exact arx_fits rfl rfl (vwL_flat (fun _ => rfl) _) | exact km rfl rfl (ql (fun _ => rfl) _) | exact qB rfl rfl (fun _ => rfl) | exact qO rfl rfl (fun _ => rfl)), trivial⟩) (UY p x hx h2 h3) rfl rfl rfl (by exact (wrc rfl (wrc (by first | exact rfl | exact kK (fun _ => rfl) | exact ke (ql (fun _ => rfl) _) | exact kg (fun _ => rfl) | exact ki (fun _ => rfl)) rfl))) rfl rfl) rfl ?_
 refine jI (qL [3] [] rfl rfl rfl (yX _ _) rfl rfl rfl rfl rfl) ?_
 refine qY [0, 1] (rs1 rfl (js qT rfl rfl rfl)) rfl rfl ?_ ⟨rfl, qB rfl rfl (fun _ => rfl), trivial⟩
 rfl
theorem A9 (p : PiM) (x : PcM) (hx : pcB x = true) (h2 : x.sn = p.sn) (h3 : x.mn = p.mn) (h4 : x.ix.toNat < p.ps.length) (h5 : emp p.ps[x.ix.toNat] = false) : DFun Tryz.prog 76 [.loc 0 0, .agg (pcD x)] [.mix 118 [.val (.int .u64 p.sn), .val (.int .i64 p.mn), .arr 1], .arx 30 1 (p.ps).length ((p.ps).flatMap fun b => [rwB b])] (.val (.int .i64 5)) [.mix 118 [.val (.int .u64 p.sn), .val (.int .i64 p.mn), .arr 1], .arx 30 1 (p.ps).length ((p.ps).flatMap fun b => [rwB b])] := by
 refine qj (N := 9) 2 (by kernel_rfl) Tryz.func76 rfl rfl rfl (by simp only [fr0, qau, qaw]; exact rfl) rfl fun s0 hs0 => ?_
 refine qD rfl hs0 ?_
 refine zam 2 ?_
 refine zac ?_
 refine zaj rfl (qG 2 rfl (ev1 rfl) rfl) ?_
 refine zaj rfl (zan 3 rfl jO rfl) ?_
 refine zab ?_
 refine qn (l0 := [_]) rfl rfl rfl rfl rfl hs0 ?_
 refine za rfl (qV rfl en (ec (ev1 rfl) en)) ?_
 refine zab ⟨_, _, _, 4, ev1 rfl, qaM hs0 (by decide), rfl, ?_⟩
 have hs1 : s0.M.length ≤ 4 := qaM hs0 (by decide)
 refine qC rfl hs0 ?_
 refine zah ?_
 refine zaa 1 rfl ?_
 refine za rfl (qo rfl kx (ev1 rfl) rfl rfl) ?_
 refine qZ rfl (qE [0, 1] [] [] rfl (ev1 rfl) (ec (ev1 rfl) (ec (ev1 rfl) en)) rfl (by exact jw _ _ ⟨rfl, (by first | exact rfl | exact arx_fits rfl rfl (vwL_flat (fun _ => rfl) _) | exact km rfl rfl (ql (fun _ => rfl) _) | exact qB rfl rfl (fun _ => rfl) | exact qO rfl rfl (fun _ => rfl)), trivial⟩) (UZ p x hx h2 h3 h4 h5) rfl rfl rfl (by exact (wrc rfl (wrc (by first | exact rfl | exact kK (fun _ => rfl) | exact ke (ql (fun _ => rfl) _) | exact kg (fun _ => rfl) | exact ki (fun _ => rfl)) rfl))) rfl rfl) rfl ?_
 refine jI (qL [3] [] rfl rfl rfl (yX _ _) rfl rfl rfl rfl rfl) ?_
 refine qY [0, 1] (rs1 rfl (js qT rfl rfl rfl)) rfl rfl ?_ ⟨rfl, qB rfl rfl (fun _ => rfl), trivial⟩
 rfl
theorem try_s (p : PiM) (x : PcM) (hx : pcB x = true) (h2 : x.sn = p.sn) (h3 : x.mn = p.mn) (h4 : x.ix.toNat < p.ps.length) (h5 : emp p.ps[x.ix.toNat] = true) : DFun Tryz.prog 76 [.loc 0 0, .agg (pcD x)] [.mix 118 [.val (.int .u64 p.sn), .val (.int .i64 p.mn), .arr 1], .arx 30 1 (p.ps).length ((p.ps).flatMap fun b => [rwB b])] (.val (.int .i64 0)) [.mix 118 [.val (.int .u64 p.sn), .val (.int .i64 p.mn), .arr 1], .arx 30 1 p.ps.length ((p.ps.set x.ix.toNat x.b).flatMap fun b => [rwB b])] := by
 refine qj (N := 9) 2 (by kernel_rfl) Tryz.func76 rfl rfl rfl (by simp only [fr0, qau, qaw]; exact rfl) rfl fun s0 hs0 => ?_
 refine qD rfl hs0 ?_
 refine zam 2 ?_
 refine zac ?_
 refine zaj rfl (qG 2 rfl (ev1 rfl) rfl) ?_
 refine zaj rfl (zan 3 rfl jO rfl) ?_
 refine zab ?_
 refine qn (l0 := [_]) rfl rfl rfl rfl rfl hs0 ?_
 refine za rfl (qV rfl en (ec (ev1 rfl) en)) ?_
 refine zab ⟨_, _, _, 4, ev1 rfl, qaM hs0 (by decide), rfl, ?_⟩
 have hs1 : s0.M.length ≤ 4 := qaM hs0 (by decide)
 refine qC rfl hs0 ?_
 refine zah ?_
 refine zaa 1 rfl ?_
 refine za rfl (qo rfl kx (ev1 rfl) rfl rfl) ?_
 refine zaj rfl (zai [0, 1] [] [] rfl (ev1 rfl) (ec (ev1 rfl) (ec (ev1 rfl) en)) rfl (by exact jw _ _ ⟨rfl, (by first | exact rfl | exact arx_fits rfl rfl (vwL_flat (fun _ => rfl) _) | exact km rfl rfl (ql (fun _ => rfl) _) | exact qB rfl rfl (fun _ => rfl) | exact qO rfl rfl (fun _ => rfl)), trivial⟩) (HE p x hx h2 h3 h4 h5) rfl rfl rfl (by exact (wrc rfl (wrc (by first | exact rfl | exact kK (fun _ => rfl) | exact ke (ql (fun _ => rfl) _) | exact kg (fun _ => rfl) | exact ki (fun _ => rfl)) rfl))) rfl rfl) ?_
 refine zab ?_
 refine zah ?_
 refine zar rfl (qH rfl qT (ev1 rfl) (ev1 rfl) rfl) ?_
 refine zab ?_
 refine qb ?_
 refine jI (kF [3] [] rfl rfl (KP _) rfl rfl rfl rfl rfl) ?_
 refine qY [0, 1] (rs1 rfl (js qT rfl rfl rfl)) rfl rfl ?_ ⟨rfl, qB rfl rfl (fun _ => rfl), trivial⟩
 rfl
theorem try_n (p : PiM) (x : PcM) (hx : pcB x = true) (h2 : p.sn < x.sn) : DFun Tryz.prog 76 [.loc 0 0, .agg (pcD x)] [.mix 118 [.val (.int .u64 p.sn), .val (.int .i64 p.mn), .arr 1], .arx 30 1 (p.ps).length ((p.ps).flatMap fun b => [rwB b])] (.val (.int .i64 0)) [.mix 118 [.val (.int .u64 x.sn), .val (.int .i64 x.mn), .arr 2], .arx 30 1 (p.ps).length ((p.ps).flatMap fun b => [rwB b]), .arx 30 1 x.mn.toNat (((qaJ x.mn.toNat ([] : List Int)).set x.ix.toNat x.b).flatMap fun b => [rwB b])] := by
 refine qj (N := 9) 2 (by kernel_rfl) Tryz.func76 rfl rfl rfl (by simp only [fr0, qau, qaw]; exact rfl) rfl fun s0 hs0 => ?_
 refine qD rfl hs0 ?_
 refine zam 2 ?_
 refine zac ?_
 refine zaj rfl (qG 2 rfl (ev1 rfl) rfl) ?_
 refine zaj rfl (zan 3 rfl jO rfl) ?_
 refine zab ?_
 refine qn (l0 := [_]) rfl rfl rfl rfl rfl hs0 ?_
 refine za rfl (qV rfl en (ec (ev1 rfl) en)) ?_
 refine zab ⟨_, _, _, 4, ev1 rfl, qaM hs0 (by decide), rfl, ?_⟩
 have hs1 : s0.M.length ≤ 4 := qaM hs0 (by decide)
 refine qC rfl hs0 ?_
 refine zae ?_
 refine zam 1 ?_
 refine zac ?_
 refine zaa 1 rfl ?_
 refine za rfl (qo rfl kx (ev1 rfl) rfl rfl) ?_
 refine zaj rfl (zai [0, 1] [] [4] rfl (ev1 rfl) (ec (ev1 rfl) (ec (ev1 rfl) en)) rfl (by exact jw _ _ ⟨rfl, (by first | exact rfl | exact arx_fits rfl rfl (vwL_flat (fun _ => rfl) _) | exact km rfl rfl (ql (fun _ => rfl) _) | exact qB rfl rfl (fun _ => rfl) | exact qO rfl rfl (fun _ => rfl)), trivial⟩) (HF p x hx h2) rfl rfl rfl (by exact (wrc rfl (wrc (by first | exact rfl | exact kK (fun _ => rfl) | exact ke (ql (fun _ => rfl) _) | exact kg (fun _ => rfl) | exact ki (fun _ => rfl)) (wrc (by first | exact rfl | exact kK (fun _ => rfl) | exact ke (ql (fun _ => rfl) _) | exact kg (fun _ => rfl) | exact ki (fun _ => rfl)) rfl)))) rfl rfl) ?_
 refine zab ?_
 refine zah ?_
 refine zar rfl (qH rfl qT (ev1 rfl) (ev1 rfl) rfl) ?_
 refine zab ?_
 refine qb ?_
 refine jI (kF [3] [] rfl rfl (KP _) rfl rfl rfl rfl rfl) ?_
 refine qY [0, 1, 4] (rs1 rfl (js qT rfl rfl rfl)) rfl rfl ?_ ⟨rfl, qB rfl rfl (fun _ => rfl), qB rfl rfl (fun _ => rfl), trivial⟩
 rfl
end Go.Proofs.YtofklkbfkoliiaaGreat
namespace Go.Proofs.YtofklkbfkoliiaaGreat
set_option linter.unusedVariables false
set_option linter.unusedSimpArgs false
open Go.RowKit
theorem ye (b : Bool) {n : Int} (hn : n ≠ 0) : (wg b n != 0) = !b := by cases b <;> simp [wg, hn]
theorem GW (b : Bool) {n : Int} (hn : n ≠ 0) : (wg b n == 0) = b := by cases b <;> simp [wg, hn]
def zPi : PiM := ⟨0, 0, []⟩
def gd (p : PiM) (x : PcM) : Int × PiM :=
 if pcB x = true then
  if x.sn < p.sn then (241, p)
  else if p.sn < x.sn then (0, ⟨x.sn, x.mn, (qaJ x.mn.toNat []).set x.ix.toNat x.b⟩)
  else if x.mn ≠ p.mn then (311, p)
  else if emp (p.ps.getD x.ix.toNat []) = true then (0, { p with ps := p.ps.set x.ix.toNat x.b }) else (5, p)
 else (311, p)
theorem GX {sn mn : Int} : ∀ {ps : List (List Int)} {k : Int}, xD sn mn ps k = true ↔ ∀ (i : Nat) (h : i < ps.length), emp ps[i] = true ∨ pcB ⟨sn, k + i, mn, ps[i]⟩ = true
 | [], k => by simp [xD]
 | b :: r, k => by
  rw [xD, qav, qaB, GX]
  constructor
  ·rintro ⟨h1, h2⟩ i hi
   cases i with
   | zero => simpa using h1
   | succ i =>
    have := h2 i (by simpa using hi)
    rw [show k + ((i + 1 : Nat) : Int) = k + 1 + i by omega]
    exact this
  ·intro h
   refine ⟨?_, fun i hi => ?_⟩
   ·have := h 0 (by simp)
    rw [show k + ((0 : Nat) : Int) = k by omega] at this
    exact this
   ·have := h (i + 1) (by simpa using hi)
    rw [show k + ((i + 1 : Nat) : Int) = k + 1 + i by omega] at this
    exact this
theorem cntE_zero : ∀ {ps : List (List Int)}, wn ps = 0 ↔ ∀ (i : Nat) (h : i < ps.length), emp ps[i] = true
 | [] => by simp [wn]
 | b :: r => by
  rw [wn]
  constructor
  ·intro h i hi
   have hb : emp b = true := by
    cases hb : emp b with
    | true => rfl
    | false => rw [hb] at h; simp at h
   rw [if_pos hb, qau] at h
   cases i with
   | zero => exact hb
   | succ i => exact cntE_zero.1 h i (by simpa using hi)
  ·intro h
   rw [if_pos (show emp b = true from h 0 (by simp)), qau]
   exact cntE_zero.2 fun i hi => h (i + 1) (by simpa using hi)
theorem piOk_iff {p : PiM} : ji p = true ↔ noB p = true ∨ ((∀ (i : Nat) (h : i < p.ps.length), emp p.ps[i] = true ∨ pcB ⟨p.sn, i, p.mn, p.ps[i]⟩ = true) ∧ (∃ (i : Nat) (h : i < p.ps.length), emp p.ps[i] = false) ∧ (p.ps.length : Int) = p.mn) := by
 unfold ji
 rw [qaB, qav, qav, GX, beq_iff_eq]
 have h1 : (!(((wn p.ps : Nat) : Int) == 0)) = true ↔ ∃ (i : Nat) (h : i < p.ps.length), emp p.ps[i] = false := by
  constructor
  ·intro h
   refine Classical.byContradiction fun hn => ?_
   have h0 : wn p.ps = 0 := cntE_zero.2 fun i hi => by
    cases he : emp p.ps[i] with
    | true => rfl
    | false => exact absurd ⟨i, hi, he⟩ hn
   rw [h0] at h
   exact absurd h (by decide)
  ·rintro ⟨i, hi, he⟩
   have h0 : wn p.ps ≠ 0 := fun h => by
    rw [cntE_zero.1 h i hi] at he
    cases he
   simp
   exact h0
 rw [h1]
 simp only [Int.zero_add]
 constructor
 ·rintro (h | ⟨⟨h2, h3⟩, h4⟩)
  ·exact .inl h
  ·exact .inr ⟨h2, h3, h4⟩
 ·rintro (h | ⟨h2, h3, h4⟩)
  ·exact .inl h
  ·exact .inr ⟨⟨h2, h3⟩, h4⟩
theorem noB_iff {p : PiM} : noB p = true ↔ p = zPi := by
 obtain ⟨sn, mn, ps⟩ := p
 unfold noB zPi
 simp only [qav, beq_iff_eq, PiM.mk.injEq]
 constructor
 ·rintro ⟨⟨h1, h2⟩, h3⟩
  exact ⟨h1, h2, qaW (by omega)⟩
 ·rintro ⟨h1, h2, h3⟩
  exact ⟨⟨h1, h2⟩, by rw [h3]; rfl⟩
theorem YV {p : PiM} (hp : ji p = true) : (p.ps.length : Int) = p.mn := by
 rcases piOk_iff.1 hp with h | ⟨_, _, h⟩
 ·rw [noB_iff.1 h]; rfl
 ·exact h
theorem pi_sn {p : PiM} (hp : ji p = true) : (p = zPi) ∨ (1 ≤ p.sn ∧ p.sn ≤ 4611686018427387904 ∧ 1 ≤ p.mn ∧ p.mn ≤ 64) := by
 rcases piOk_iff.1 hp with h | ⟨h1, ⟨i, hi, he⟩, h3⟩
 ·exact .inl (noB_iff.1 h)
 ·right
  rcases h1 i hi with h | h
  ·rw [he] at h; cases h
  ·have := pcB_iff.1 h
   dsimp only at this
   omega
theorem vj {p : PiM} (hp : ji p = true) : p.ps.length ≤ 64 ∧ ∀ b ∈ p.ps, b.length ≤ 256 := by
 have hl := YV hp
 rcases pi_sn hp with rfl | h
 ·exact ⟨by decide, fun b hb => by cases hb⟩
 ·refine ⟨by omega, fun b hb => ?_⟩
  obtain ⟨i, hi, rfl⟩ := List.getElem_of_mem hb
  rcases piOk_iff.1 hp with h0 | ⟨h1, _, _⟩
  ·rw [noB_iff.1 h0] at h; exact absurd h (by decide)
  ·rcases h1 i hi with he | he
   ·rw [emp_iff.1 he]; simp
   ·have := pcB_iff.1 he
    dsimp only at this
    omega
theorem HG {x : PcM} (h : pcB x = true) : emp x.b = false := by
 have := pcB_iff.1 h
 cases he : emp x.b with
 | false => rfl
 | true =>
  rw [emp_iff.1 he] at this
  simp at this
theorem gV {p : PiM} (hp : ji p = true) (x : PcM) :
  (pcB x = true ∧ p.sn < x.sn ∧ gd p x = (0, ⟨x.sn, x.mn, (qaJ x.mn.toNat []).set x.ix.toNat x.b⟩)) ∨
  (pcB x = true ∧ x.sn = p.sn ∧ x.mn = p.mn ∧ (∃ h : x.ix.toNat < p.ps.length, emp p.ps[x.ix.toNat] = true) ∧ gd p x = (0, { p with ps := p.ps.set x.ix.toNat x.b })) ∨
  (∃ e : Int, e ≠ 0 ∧ gd p x = (e, p) ∧ ((pcB x = false ∧ e = 311) ∨ (pcB x = true ∧ x.sn < p.sn ∧ e = 241) ∨ (pcB x = true ∧ x.sn = p.sn ∧ x.mn ≠ p.mn ∧ e = 311) ∨ (pcB x = true ∧ x.sn = p.sn ∧ x.mn = p.mn ∧ (∃ h : x.ix.toNat < p.ps.length, emp p.ps[x.ix.toNat] = false) ∧ e = 5))) := by
 unfold gd
 cases hx : pcB x with
 | false => exact .inr (.inr ⟨311, by decide, rfl, .inl ⟨rfl, rfl⟩⟩)
 | true =>
  rw [if_pos rfl]
  by_cases h1 : x.sn < p.sn
  ·rw [if_pos h1]
   exact .inr (.inr ⟨241, by decide, rfl, .inr (.inl ⟨rfl, h1, rfl⟩)⟩)
  rw [if_neg h1]
  by_cases h2 : p.sn < x.sn
  ·rw [if_pos h2]
   exact .inl ⟨rfl, h2, rfl⟩
  rw [if_neg h2]
  have hs : x.sn = p.sn := by omega
  by_cases h3 : x.mn ≠ p.mn
  ·rw [if_pos h3]
   exact .inr (.inr ⟨311, by decide, rfl, .inr (.inr (.inl ⟨rfl, hs, h3, rfl⟩))⟩)
  rw [if_neg h3]
  have hm : x.mn = p.mn := by simpa using h3
  have hl := YV hp
  have hpx := pcB_iff.1 hx
  have hi : x.ix.toNat < p.ps.length := by omega
  rw [show p.ps.getD x.ix.toNat [] = p.ps[x.ix.toNat] from by rw [qa2, qat hi]; rfl]
  cases he : emp p.ps[x.ix.toNat] with
  | true => rw [if_pos rfl]; exact .inr (.inl ⟨rfl, hs, hm, ⟨hi, he⟩, rfl⟩)
  | false => rw [if_neg (by decide)]; exact .inr (.inr ⟨5, by decide, rfl, .inr (.inr (.inr ⟨rfl, hs, hm, ⟨hi, he⟩, rfl⟩))⟩)
theorem qaa {p q : PiM} {x : PcM} (hp : ji p = true) (h : (gd p x).2 = q) : ji q = true := by
 subst h
 rcases gV hp x with ⟨hx, h2, e⟩ | ⟨hx, h2, h3, ⟨h4, h5⟩, e⟩ | ⟨_, _, e, _⟩
 ·rw [e]
  have hpx := pcB_iff.1 hx
  refine piOk_iff.2 (.inr ⟨fun i hi => ?_, ⟨x.ix.toNat, by simp; omega, ?_⟩, by simp; omega⟩)
  ·by_cases hj : x.ix.toNat = i
   ·subst hj
    right
    simp only [List.getElem_set_self]
    rw [show ((x.ix.toNat : Nat) : Int) = x.ix by omega]
    exact hx
   ·left
    simp only [List.getElem_set_ne hj, List.getElem_replicate]
    rfl
  ·simp only [List.getElem_set_self]
   exact HG hx
 ·rw [e]
  have hpx := pcB_iff.1 hx
  have hl := YV hp
  have h0 : noB p = false := by
   cases h : noB p with
   | false => rfl
   | true => rw [noB_iff.1 h] at h4; cases h4
  rcases piOk_iff.1 hp with h | ⟨g1, _, g3⟩
  ·rw [h0] at h; cases h
  refine piOk_iff.2 (.inr ⟨fun i hi => ?_, ⟨x.ix.toNat, by simpa using h4, ?_⟩, by simp; omega⟩)
  ·by_cases hj : x.ix.toNat = i
   ·subst hj
    right
    simp only [List.getElem_set_self]
    rw [show ((x.ix.toNat : Nat) : Int) = x.ix by omega, ← h2, ← h3]
    exact hx
   ·have := g1 i (by simpa using hi)
    simp only [List.getElem_set_ne hj]
    exact this
  ·simp only [List.getElem_set_self]
   exact HG hx
 ·rw [e]; exact hp
def kH : List PcM → PiM × Nat → PiM × Nat
 | [], s => s
 | x :: r, s => kH r ((gd s.1 x).2, if (gd s.1 x).1 = 0 then s.2 else s.2 + 1)
theorem gW (l : List PcM) {k : Nat} (s : PiM × Nat) (h : k < l.length) : kH (l.take (k + 1)) s = ((gd (kH (l.take k) s).1 l[k]).2, if (gd (kH (l.take k) s).1 l[k]).1 = 0 then (kH (l.take k) s).2 else (kH (l.take k) s).2 + 1) := by
 induction l generalizing k s with
 | nil => simp at h
 | cons x r ih =>
  cases k with
  | zero => simp [kH]
  | succ k =>
   rw [List.take_succ_cons, List.take_succ_cons, kH, kH, ih _ (by simpa using h)]
   rfl
theorem GY {p : PiM} (hp : ji p = true) : ∀ (l : List PcM) (n : Nat), ji (kH l (p, n)).1 = true ∧ (kH l (p, n)).2 ≤ n + l.length
 | [], n => ⟨hp, qaO _⟩
 | x :: r, n => by
  rw [kH]
  have h1 := GY (qaa hp (x := x) rfl) r (if (gd p x).1 = 0 then n else n + 1)
  refine ⟨h1.1, qaM h1.2 ?_⟩
  rw [qaU]
  split <;> omega
end Go.Proofs.YtofklkbfkoliiaaGreat
namespace Go.Proofs.YtofklkbfkoliiaaGreat
set_option linter.unusedVariables false
set_option linter.unusedSimpArgs false
open Go.RowKit
attribute [local irreducible] tkN jK ky gd
theorem rw_nl (l : List (List Int)) : D.nlL (l.flatMap fun b => [rwB b]) = true := by
 induction l with
 | nil => rfl
 | cons b r ih => rw [qaL]; exact ih
theorem U0 : Wk (.val (.agg #[.int .u64 0, .int .i64 0, .slice none 0 0])) (.agg (piD zPi)) := (Wk.vagg _).trans (Wk.agg (.cons (.refl _) (.cons (.refl _) (.cons (Wk.slm0 1) .nil))))
theorem wk_pe (e : Int) : Wk (.tup [.val (.agg #[.int .u64 0, .int .i64 0, .slice none 0 0]), .val (.int .i64 e)]) (.tup [.agg (piD zPi), .val (.int .i64 e)]) := Wk.tup (.cons U0 (.cons (.refl _) .nil))
theorem JB {T : TypeId} {u v : Value} {n : Nat} {l : List (List Int)} : vw [] jH [.arx T 1 n (l.flatMap fun b => [rwB b])] (.agg [.val u, .val v, .arr 0]) = some (.agg [.val u, .val v, .slm 1 n (l.flatMap fun b => [rwB b])]) := by
 have h := XN (σ := []) (V := jH) (M := [.arx T 1 n (l.flatMap fun b => [rwB b])]) (i := 0) rfl rfl rfl (rw_nl l)
 have h2 := jc (σ := []) (V := jH) (M := [.arx T 1 n (l.flatMap fun b => [rwB b])]) (d := .val u) rfl (jc (d := .val v) rfl (jc h (show vwL [] jH _ [] = some [] from rfl)))
 unfold vw
 rw [h2]
 rfl
theorem ZE (p : PiM) (hn : p.ps.length ≤ 5000) (hb : ∀ b ∈ p.ps, b.length ≤ 100000) (hp : ji p = true) (x : PcM) (hx : pcB x = false) : DFun Tryz.prog 30 [.agg (piD p), .agg (pcD x)] [] (.tup [.val (.agg #[.int .u64 0, .int .i64 0, .slice none 0 0]), .val (.int .i64 311)]) [] := by
 refine qj (N := 17) 0 (by kernel_rfl) Tryz.func30 rfl rfl rfl (by simp only [fr0, qau, qaw]; exact rfl) rfl fun s0 hs0 => ?_
 refine qD rfl hs0 ?_
 refine zam 4 ?_
 refine zac ?_
 refine zaj rfl (qG 0 rfl (ev1 rfl) rfl) ?_
 refine zaj rfl (qG 1 rfl (ev1 rfl) rfl) ?_
 refine zaj rfl (zan 2 rfl xE rfl) ?_
 refine zaj rfl (zan 3 rfl jO rfl) ?_
 refine zab ?_
 refine qn (l0 := [_]) rfl rfl rfl rfl rfl hs0 ?_
 refine za rfl (qV rfl en (ec (ev1 rfl) en)) ?_
 refine zab ⟨_, _, _, 4, ev1 rfl, qaM hs0 (by decide), rfl, ?_⟩
 have hs1 : s0.M.length ≤ 4 := qaM hs0 (by decide)
 refine qC rfl hs0 ?_
 refine zae ?_
 refine zam 2 ?_
 refine zac ?_
 refine za rfl (qo rfl jt (ev1 rfl) rfl rfl) ?_
 refine zaj rfl (zai [] [] [4, 5] rfl (ev1 rfl) (ec (ev1 rfl) en) rfl rfl (ud p hn hb hp) rfl rfl rfl (by exact (wrc rfl (wrc (by first | exact rfl | exact kK (fun _ => rfl) | exact ke (ql (fun _ => rfl) _) | exact kg (fun _ => rfl) | exact ki (fun _ => rfl)) rfl))) rfl rfl) ?_
 refine zaa 1 rfl ?_
 refine zab ?_
 refine zah ?_
 refine zaa 1 rfl ?_
 refine za rfl (qo rfl kx (ev1 rfl) rfl rfl) ?_
 refine qZ rfl (qE [4, 5] [] [] rfl (ev1 rfl) (ec (ev1 rfl) (ec (ev1 rfl) en)) rfl (by exact jw _ _ ⟨rfl, (by first | exact rfl | exact arx_fits rfl rfl (vwL_flat (fun _ => rfl) _) | exact km rfl rfl (ql (fun _ => rfl) _) | exact qB rfl rfl (fun _ => rfl) | exact qO rfl rfl (fun _ => rfl)), trivial⟩) (UW p x hx) rfl rfl rfl (by exact (wrc rfl (wrc (by first | exact rfl | exact kK (fun _ => rfl) | exact ke (ql (fun _ => rfl) _) | exact kg (fun _ => rfl) | exact ki (fun _ => rfl)) rfl))) rfl rfl) rfl ?_
 refine jI (qL [3] [] rfl rfl rfl (yu _ _) rfl rfl rfl rfl rfl) ?_
 refine qx (rs2 rfl (yM jt rfl rfl rfl) (js qT rfl rfl rfl)) rfl ?_
 rfl
theorem ZF (p : PiM) (hn : p.ps.length ≤ 5000) (hb : ∀ b ∈ p.ps, b.length ≤ 100000) (hp : ji p = true) (x : PcM) (hx : pcB x = true) (h2 : x.sn < p.sn) : DFun Tryz.prog 30 [.agg (piD p), .agg (pcD x)] [] (.tup [.val (.agg #[.int .u64 0, .int .i64 0, .slice none 0 0]), .val (.int .i64 241)]) [] := by
 refine qj (N := 17) 0 (by kernel_rfl) Tryz.func30 rfl rfl rfl (by simp only [fr0, qau, qaw]; exact rfl) rfl fun s0 hs0 => ?_
 refine qD rfl hs0 ?_
 refine zam 4 ?_
 refine zac ?_
 refine zaj rfl (qG 0 rfl (ev1 rfl) rfl) ?_
 refine zaj rfl (qG 1 rfl (ev1 rfl) rfl) ?_
 refine zaj rfl (zan 2 rfl xE rfl) ?_
 refine zaj rfl (zan 3 rfl jO rfl) ?_
 refine zab ?_
 refine qn (l0 := [_]) rfl rfl rfl rfl rfl hs0 ?_
 refine za rfl (qV rfl en (ec (ev1 rfl) en)) ?_
 refine zab ⟨_, _, _, 4, ev1 rfl, qaM hs0 (by decide), rfl, ?_⟩
 have hs1 : s0.M.length ≤ 4 := qaM hs0 (by decide)
 refine qC rfl hs0 ?_
 refine zae ?_
 refine zam 2 ?_
 refine zac ?_
 refine za rfl (qo rfl jt (ev1 rfl) rfl rfl) ?_
 refine zaj rfl (zai [] [] [4, 5] rfl (ev1 rfl) (ec (ev1 rfl) en) rfl rfl (ud p hn hb hp) rfl rfl rfl (by exact (wrc rfl (wrc (by first | exact rfl | exact kK (fun _ => rfl) | exact ke (ql (fun _ => rfl) _) | exact kg (fun _ => rfl) | exact ki (fun _ => rfl)) rfl))) rfl rfl) ?_
 refine zaa 1 rfl ?_
 refine zab ?_
 refine zah ?_
 refine zaa 1 rfl ?_
 refine za rfl (qo rfl kx (ev1 rfl) rfl rfl) ?_
 refine qZ rfl (qE [4, 5] [] [] rfl (ev1 rfl) (ec (ev1 rfl) (ec (ev1 rfl) en)) rfl (by exact jw _ _ ⟨rfl, (by first | exact rfl | exact arx_fits rfl rfl (vwL_flat (fun _ => rfl) _) | exact km rfl rfl (ql (fun _ => rfl) _) | exact qB rfl rfl (fun _ => rfl) | exact qO rfl rfl (fun _ => rfl)), trivial⟩) (UX p x hx h2) rfl rfl rfl (by exact (wrc rfl (wrc (by first | exact rfl | exact kK (fun _ => rfl) | exact ke (ql (fun _ => rfl) _) | exact kg (fun _ => rfl) | exact ki (fun _ => rfl)) rfl))) rfl rfl) rfl ?_
 refine jI (qL [3] [] rfl rfl rfl (yu _ _) rfl rfl rfl rfl rfl) ?_
 refine qx (rs2 rfl (yM jt rfl rfl rfl) (js qT rfl rfl rfl)) rfl ?_
 rfl
theorem ZG (p : PiM) (hn : p.ps.length ≤ 5000) (hb : ∀ b ∈ p.ps, b.length ≤ 100000) (hp : ji p = true) (x : PcM) (hx : pcB x = true) (h2 : x.sn = p.sn) (h3 : x.mn ≠ p.mn) : DFun Tryz.prog 30 [.agg (piD p), .agg (pcD x)] [] (.tup [.val (.agg #[.int .u64 0, .int .i64 0, .slice none 0 0]), .val (.int .i64 311)]) [] := by
 refine qj (N := 17) 0 (by kernel_rfl) Tryz.func30 rfl rfl rfl (by simp only [fr0, qau, qaw]; exact rfl) rfl fun s0 hs0 => ?_
 refine qD rfl hs0 ?_
 refine zam 4 ?_
 refine zac ?_
 refine zaj rfl (qG 0 rfl (ev1 rfl) rfl) ?_
 refine zaj rfl (qG 1 rfl (ev1 rfl) rfl) ?_
 refine zaj rfl (zan 2 rfl xE rfl) ?_
 refine zaj rfl (zan 3 rfl jO rfl) ?_
 refine zab ?_
 refine qn (l0 := [_]) rfl rfl rfl rfl rfl hs0 ?_
 refine za rfl (qV rfl en (ec (ev1 rfl) en)) ?_
 refine zab ⟨_, _, _, 4, ev1 rfl, qaM hs0 (by decide), rfl, ?_⟩
 have hs1 : s0.M.length ≤ 4 := qaM hs0 (by decide)
 refine qC rfl hs0 ?_
 refine zae ?_
 refine zam 2 ?_
 refine zac ?_
 refine za rfl (qo rfl jt (ev1 rfl) rfl rfl) ?_
 refine zaj rfl (zai [] [] [4, 5] rfl (ev1 rfl) (ec (ev1 rfl) en) rfl rfl (ud p hn hb hp) rfl rfl rfl (by exact (wrc rfl (wrc (by first | exact rfl | exact kK (fun _ => rfl) | exact ke (ql (fun _ => rfl) _) | exact kg (fun _ => rfl) | exact ki (fun _ => rfl)) rfl))) rfl rfl) ?_
 refine zaa 1 rfl ?_
 refine zab ?_
 refine zah ?_
 refine zaa 1 rfl ?_
 refine za rfl (qo rfl kx (ev1 rfl) rfl rfl) ?_
 refine qZ rfl (qE [4, 5] [] [] rfl (ev1 rfl) (ec (ev1 rfl) (ec (ev1 rfl) en)) rfl (by exact jw _ _ ⟨rfl, (by first | exact rfl | exact arx_fits rfl rfl (vwL_flat (fun _ => rfl) _) | exact km rfl rfl (ql (fun _ => rfl) _) | exact qB rfl rfl (fun _ => rfl) | exact qO rfl rfl (fun _ => rfl)), trivial⟩) (UY p x hx h2 h3) rfl rfl rfl (by exact (wrc rfl (wrc (by first | exact rfl | exact kK (fun _ => rfl) | exact ke (ql (fun _ => rfl) _) | exact kg (fun _ => rfl) | exact ki (fun _ => rfl)) rfl))) rfl rfl) rfl ?_
 refine jI (qL [3] [] rfl rfl rfl (yu _ _) rfl rfl rfl rfl rfl) ?_
 refine qx (rs2 rfl (yM jt rfl rfl rfl) (js qT rfl rfl rfl)) rfl ?_
 rfl
theorem ZH (p : PiM) (hn : p.ps.length ≤ 5000) (hb : ∀ b ∈ p.ps, b.length ≤ 100000) (hp : ji p = true) (x : PcM) (hx : pcB x = true) (h2 : x.sn = p.sn) (h3 : x.mn = p.mn) (h4 : x.ix.toNat < p.ps.length) (h5 : emp p.ps[x.ix.toNat] = false) : DFun Tryz.prog 30 [.agg (piD p), .agg (pcD x)] [] (.tup [.val (.agg #[.int .u64 0, .int .i64 0, .slice none 0 0]), .val (.int .i64 5)]) [] := by
 refine qj (N := 17) 0 (by kernel_rfl) Tryz.func30 rfl rfl rfl (by simp only [fr0, qau, qaw]; exact rfl) rfl fun s0 hs0 => ?_
 refine qD rfl hs0 ?_
 refine zam 4 ?_
 refine zac ?_
 refine zaj rfl (qG 0 rfl (ev1 rfl) rfl) ?_
 refine zaj rfl (qG 1 rfl (ev1 rfl) rfl) ?_
 refine zaj rfl (zan 2 rfl xE rfl) ?_
 refine zaj rfl (zan 3 rfl jO rfl) ?_
 refine zab ?_
 refine qn (l0 := [_]) rfl rfl rfl rfl rfl hs0 ?_
 refine za rfl (qV rfl en (ec (ev1 rfl) en)) ?_
 refine zab ⟨_, _, _, 4, ev1 rfl, qaM hs0 (by decide), rfl, ?_⟩
 have hs1 : s0.M.length ≤ 4 := qaM hs0 (by decide)
 refine qC rfl hs0 ?_
 refine zae ?_
 refine zam 2 ?_
 refine zac ?_
 refine za rfl (qo rfl jt (ev1 rfl) rfl rfl) ?_
 refine zaj rfl (zai [] [] [4, 5] rfl (ev1 rfl) (ec (ev1 rfl) en) rfl rfl (ud p hn hb hp) rfl rfl rfl (by exact (wrc rfl (wrc (by first | exact rfl | exact kK (fun _ => rfl) | exact ke (ql (fun _ => rfl) _) | exact kg (fun _ => rfl) | exact ki (fun _ => rfl)) rfl))) rfl rfl) ?_
 refine zaa 1 rfl ?_
 refine zab ?_
 refine zah ?_
 refine zaa 1 rfl ?_
 refine za rfl (qo rfl kx (ev1 rfl) rfl rfl) ?_
 refine qZ rfl (qE [4, 5] [] [] rfl (ev1 rfl) (ec (ev1 rfl) (ec (ev1 rfl) en)) rfl (by exact jw _ _ ⟨rfl, (by first | exact rfl | exact arx_fits rfl rfl (vwL_flat (fun _ => rfl) _) | exact km rfl rfl (ql (fun _ => rfl) _) | exact qB rfl rfl (fun _ => rfl) | exact qO rfl rfl (fun _ => rfl)), trivial⟩) (UZ p x hx h2 h3 h4 h5) rfl rfl rfl (by exact (wrc rfl (wrc (by first | exact rfl | exact kK (fun _ => rfl) | exact ke (ql (fun _ => rfl) _) | exact kg (fun _ => rfl) | exact ki (fun _ => rfl)) rfl))) rfl rfl) rfl ?_
 refine jI (qL [3] [] rfl rfl rfl (yu _ _) rfl rfl rfl rfl rfl) ?_
 refine qx (rs2 rfl (yM jt rfl rfl rfl) (js qT rfl rfl rfl)) rfl ?_
 rfl
theorem ZI (p : PiM) (hn : p.ps.length ≤ 5000) (hb : ∀ b ∈ p.ps, b.length ≤ 100000) (hp : ji p = true) (x : PcM) (hx : pcB x = true) (h2 : x.sn = p.sn) (h3 : x.mn = p.mn) (h4 : x.ix.toNat < p.ps.length) (h5 : emp p.ps[x.ix.toNat] = true) : DFun Tryz.prog 30 [.agg (piD p), .agg (pcD x)] [] (.tup [.agg [.val (.int .u64 p.sn), .val (.int .i64 p.mn), .arr 0], .val (.int .i64 0)]) [.arx 30 1 p.ps.length ((p.ps.set x.ix.toNat x.b).flatMap fun b => [rwB b])] := by
 refine qj (N := 17) 0 (by kernel_rfl) Tryz.func30 rfl rfl rfl (by simp only [fr0, qau, qaw]; exact rfl) rfl fun s0 hs0 => ?_
 refine qD rfl hs0 ?_
 refine zam 4 ?_
 refine zac ?_
 refine zaj rfl (qG 0 rfl (ev1 rfl) rfl) ?_
 refine zaj rfl (qG 1 rfl (ev1 rfl) rfl) ?_
 refine zaj rfl (zan 2 rfl xE rfl) ?_
 refine zaj rfl (zan 3 rfl jO rfl) ?_
 refine zab ?_
 refine qn (l0 := [_]) rfl rfl rfl rfl rfl hs0 ?_
 refine za rfl (qV rfl en (ec (ev1 rfl) en)) ?_
 refine zab ⟨_, _, _, 4, ev1 rfl, qaM hs0 (by decide), rfl, ?_⟩
 have hs1 : s0.M.length ≤ 4 := qaM hs0 (by decide)
 refine qC rfl hs0 ?_
 refine zae ?_
 refine zam 2 ?_
 refine zac ?_
 refine za rfl (qo rfl jt (ev1 rfl) rfl rfl) ?_
 refine zaj rfl (zai [] [] [4, 5] rfl (ev1 rfl) (ec (ev1 rfl) en) rfl rfl (ud p hn hb hp) rfl rfl rfl (by exact (wrc rfl (wrc (by first | exact rfl | exact kK (fun _ => rfl) | exact ke (ql (fun _ => rfl) _) | exact kg (fun _ => rfl) | exact ki (fun _ => rfl)) rfl))) rfl rfl) ?_
 refine zaa 1 rfl ?_
 refine zab ?_
 refine zah ?_
 refine zaa 1 rfl ?_
 refine za rfl (qo rfl kx (ev1 rfl) rfl rfl) ?_
 refine zaj rfl (zai [4, 5] [] [] rfl (ev1 rfl) (ec (ev1 rfl) (ec (ev1 rfl) en)) rfl (by exact jw _ _ ⟨rfl, (by first | exact rfl | exact arx_fits rfl rfl (vwL_flat (fun _ => rfl) _) | exact km rfl rfl (ql (fun _ => rfl) _) | exact qB rfl rfl (fun _ => rfl) | exact qO rfl rfl (fun _ => rfl)), trivial⟩) (HE p x hx h2 h3 h4 h5) rfl rfl rfl (by exact (wrc rfl (wrc (by first | exact rfl | exact kK (fun _ => rfl) | exact ke (ql (fun _ => rfl) _) | exact kg (fun _ => rfl) | exact ki (fun _ => rfl)) rfl))) rfl rfl) ?_
 refine zab ?_
 refine zah ?_
 refine zaa 1 rfl ?_
 refine za rfl (qw rfl (ev1 rfl) (fun s v h => by cases h; exact ⟨_, rfl⟩)) ?_
 refine za rfl (qa rfl kQ (ev1 rfl)) ?_
 refine za rfl (qo rfl jt (ev1 rfl) rfl rfl) ?_
 refine zar rfl (kt rfl jt (ev1 rfl) (ev1 rfl) rfl rfl rfl rfl) ?_
 refine zar rfl (qH rfl qT (ev1 rfl) (ev1 rfl) rfl) ?_
 refine zab ?_
 refine qb ?_
 refine jI (kF [3] [] rfl rfl (zN _) rfl rfl rfl rfl rfl) ?_
 refine qY [5] (rs2 rfl (we jt rfl rfl rfl) (js qT rfl rfl rfl)) rfl rfl ?_ ⟨?_, trivial⟩
 rfl
 exact qB rfl rfl (fun _ => rfl)
theorem ZJ (p : PiM) (hn : p.ps.length ≤ 5000) (hb : ∀ b ∈ p.ps, b.length ≤ 100000) (hp : ji p = true) (x : PcM) (hx : pcB x = true) (h2 : p.sn < x.sn) : DFun Tryz.prog 30 [.agg (piD p), .agg (pcD x)] [] (.tup [.agg [.val (.int .u64 x.sn), .val (.int .i64 x.mn), .arr 0], .val (.int .i64 0)]) [.arx 30 1 x.mn.toNat (((qaJ x.mn.toNat ([] : List Int)).set x.ix.toNat x.b).flatMap fun b => [rwB b])] := by
 refine qj (N := 17) 0 (by kernel_rfl) Tryz.func30 rfl rfl rfl (by simp only [fr0, qau, qaw]; exact rfl) rfl fun s0 hs0 => ?_
 refine qD rfl hs0 ?_
 refine zam 4 ?_
 refine zac ?_
 refine zaj rfl (qG 0 rfl (ev1 rfl) rfl) ?_
 refine zaj rfl (qG 1 rfl (ev1 rfl) rfl) ?_
 refine zaj rfl (zan 2 rfl xE rfl) ?_
 refine zaj rfl (zan 3 rfl jO rfl) ?_
 refine zab ?_
 refine qn (l0 := [_]) rfl rfl rfl rfl rfl hs0 ?_
 refine za rfl (qV rfl en (ec (ev1 rfl) en)) ?_
 refine zab ⟨_, _, _, 4, ev1 rfl, qaM hs0 (by decide), rfl, ?_⟩
 have hs1 : s0.M.length ≤ 4 := qaM hs0 (by decide)
 refine qC rfl hs0 ?_
 refine zae ?_
 refine zam 2 ?_
 refine zac ?_
 refine za rfl (qo rfl jt (ev1 rfl) rfl rfl) ?_
 refine zaj rfl (zai [] [] [4, 5] rfl (ev1 rfl) (ec (ev1 rfl) en) rfl rfl (ud p hn hb hp) rfl rfl rfl (by exact (wrc rfl (wrc (by first | exact rfl | exact kK (fun _ => rfl) | exact ke (ql (fun _ => rfl) _) | exact kg (fun _ => rfl) | exact ki (fun _ => rfl)) rfl))) rfl rfl) ?_
 refine zaa 1 rfl ?_
 refine zab ?_
 refine zae ?_
 refine zam 1 ?_
 refine zac ?_
 refine zaa 1 rfl ?_
 refine za rfl (qo rfl kx (ev1 rfl) rfl rfl) ?_
 refine zaj rfl (zai [4, 5] [] [6] rfl (ev1 rfl) (ec (ev1 rfl) (ec (ev1 rfl) en)) rfl (by exact jw _ _ ⟨rfl, (by first | exact rfl | exact arx_fits rfl rfl (vwL_flat (fun _ => rfl) _) | exact km rfl rfl (ql (fun _ => rfl) _) | exact qB rfl rfl (fun _ => rfl) | exact qO rfl rfl (fun _ => rfl)), trivial⟩) (HF p x hx h2) rfl rfl rfl (by exact (wrc rfl (wrc (by first | exact rfl | exact kK (fun _ => rfl) | exact ke (ql (fun _ => rfl) _) | exact kg (fun _ => rfl) | exact ki (fun _ => rfl)) (wrc (by first | exact rfl | exact kK (fun _ => rfl) | exact ke (ql (fun _ => rfl) _) | exact kg (fun _ => rfl) | exact ki (fun _ => rfl)) rfl)))) rfl rfl) ?_
 refine zab ?_
 refine zah ?_
 refine zaa 1 rfl ?_
 refine za rfl (qw rfl (ev1 rfl) (fun s v h => by cases h; exact ⟨_, rfl⟩)) ?_
 refine za rfl (qa rfl kQ (ev1 rfl)) ?_
 refine za rfl (qo rfl jt (ev1 rfl) rfl rfl) ?_
 refine zar rfl (kt rfl jt (ev1 rfl) (ev1 rfl) rfl rfl rfl rfl) ?_
 refine zar rfl (qH rfl qT (ev1 rfl) (ev1 rfl) rfl) ?_
 refine zab ?_
 refine qb ?_
 refine jI (kF [3] [] rfl rfl (zN _) rfl rfl rfl rfl rfl) ?_
 refine qY [6] (rs2 rfl (we jt rfl rfl rfl) (js qT rfl rfl rfl)) rfl rfl ?_ ⟨?_, trivial⟩
 rfl
 exact qB rfl rfl (fun _ => rfl)
theorem try_e (p : PiM) (x : PcM) (hp : ji p = true) (e : Int) (he : e ≠ 0) (h : gd p x = (e, p)) : DFun Tryz.prog 76 [.loc 0 0, .agg (pcD x)] [.mix 118 [.val (.int .u64 p.sn), .val (.int .i64 p.mn), .arr 1], .arx 30 1 (p.ps).length ((p.ps).flatMap fun b => [rwB b])] (.val (.int .i64 e)) [.mix 118 [.val (.int .u64 p.sn), .val (.int .i64 p.mn), .arr 1], .arx 30 1 (p.ps).length ((p.ps).flatMap fun b => [rwB b])] := by
 rcases gV hp x with ⟨_, _, h1⟩ | ⟨_, _, _, _, h1⟩ | ⟨e1, _, h1, g⟩
 ·rw [h1] at h; exact absurd (congrArg Prod.fst h).symm he
 ·rw [h1] at h; exact absurd (congrArg Prod.fst h).symm he
 ·obtain rfl : e1 = e := by rw [h1] at h; exact congrArg Prod.fst h
  rcases g with ⟨a, rfl⟩ | ⟨a, b, rfl⟩ | ⟨a, b, c, rfl⟩ | ⟨a, b, c, ⟨d, f⟩, rfl⟩
  ·exact A6 p x a
  ·exact A7 p x a b
  ·exact A8 p x a b c
  ·exact A9 p x a b c d f
theorem ZK (p : PiM) (hn : p.ps.length ≤ 5000) (hb : ∀ b ∈ p.ps, b.length ≤ 100000) (hp : ji p = true) (x : PcM) (e : Int) (he : e ≠ 0) (h : (gd p x).1 = e) : DFun Tryz.prog 30 [.agg (piD p), .agg (pcD x)] [] (.tup [.agg (piD zPi), .val (.int .i64 e)]) [] := by
 refine DFun.wk ?_ (wk_pe e)
 rcases gV hp x with ⟨_, _, h1⟩ | ⟨_, _, _, _, h1⟩ | ⟨e1, _, h1, g⟩
 ·rw [h1] at h; exact absurd h.symm he
 ·rw [h1] at h; exact absurd h.symm he
 ·obtain rfl : e1 = e := by rw [h1] at h; exact h
  rcases g with ⟨a, rfl⟩ | ⟨a, b, rfl⟩ | ⟨a, b, c, rfl⟩ | ⟨a, b, c, ⟨d, f⟩, rfl⟩
  ·exact ZE p hn hb hp x a
  ·exact ZF p hn hb hp x a b
  ·exact ZG p hn hb hp x a b c
  ·exact ZH p hn hb hp x a b c d f
theorem ZL (p : PiM) (hn : p.ps.length ≤ 5000) (hb : ∀ b ∈ p.ps, b.length ≤ 100000) (hp : ji p = true) (x : PcM) (h : (gd p x).1 = 0) : DFun Tryz.prog 30 [.agg (piD p), .agg (pcD x)] [] (.tup [.agg (piD (gd p x).2), .val (.int .i64 0)]) [] := by
 rcases gV hp x with ⟨a, b, h1⟩ | ⟨a, b, c, ⟨d, f⟩, h1⟩ | ⟨e1, he, h1, _⟩
 ·have hq := y3 (ZJ p hn hb hp x a b) (WM JB)
  rw [h1]
  have hl : (qaJ x.mn.toNat ([] : List Int)).length = x.mn.toNat := qaS
  unfold piD
  dsimp only
  rw [List.length_set, hl]
  exact hq
 ·have hq := y3 (ZI p hn hb hp x a b c d f) (WM JB)
  rw [h1]
  unfold piD
  dsimp only
  rw [List.length_set]
  exact hq
 ·rw [h1] at h; exact absurd h he
theorem ZM {p : PiM} (hp : ji p = true) (x : PcM) (h0 : (gd p x).1 = 0) (h : p.sn < x.sn) : pcB x = true ∧ (gd p x).2 = ⟨x.sn, x.mn, (qaJ x.mn.toNat []).set x.ix.toNat x.b⟩ := by
 rcases gV hp x with ⟨a, _, h1⟩ | ⟨_, b, _, _, _⟩ | ⟨e1, he, h1, _⟩
 ·exact ⟨a, by rw [h1]⟩
 ·omega
 ·rw [h1] at h0; exact absurd h0 he
theorem U1 {p : PiM} (hp : ji p = true) (x : PcM) (h0 : (gd p x).1 = 0) (h : ¬ p.sn < x.sn) : pcB x = true ∧ x.sn = p.sn ∧ x.mn = p.mn ∧ (∃ h : x.ix.toNat < p.ps.length, emp p.ps[x.ix.toNat] = true) ∧ (gd p x).2 = { p with ps := p.ps.set x.ix.toNat x.b } := by
 rcases gV hp x with ⟨_, b, _⟩ | ⟨a, b, c, d, h1⟩ | ⟨e1, he, h1, _⟩
 ·omega
 ·exact ⟨a, b, c, d, by rw [h1]⟩
 ·rw [h1] at h0; exact absurd h0 he
theorem ZN {p : PiM} (hp : ji p = true) (x : PcM) (h0 : ¬ (gd p x).1 = 0) : gd p x = ((gd p x).1, p) := by
 rcases gV hp x with ⟨_, _, h1⟩ | ⟨_, _, _, _, h1⟩ | ⟨e1, he, h1, _⟩
 ·rw [h1] at h0; exact absurd rfl h0
 ·rw [h1] at h0; exact absurd rfl h0
 ·rw [h1]
end Go.Proofs.YtofklkbfkoliiaaGreat
namespace Go.Proofs.YtofklkbfkoliiaaGreat
set_option linter.unusedVariables false
set_option linter.unusedSimpArgs false
open Go.RowKit
attribute [local irreducible] tkN jK ky gd ji
theorem jV : slE Tryz.prog 48 = some (53, 4, 48) := by kernel_rfl
theorem ZO (p : PiM) (hn : p.ps.length ≤ 5000) (hb : ∀ b ∈ p.ps, b.length ≤ 100000) (hp : ji p = true) (l : List PcM) (hl : l.length ≤ 100000) : DFun Tryz.prog 37 [.agg (piD p), .slm 4 l.length (l.flatMap pcD)] [] (.tup [.agg [.val (.int .u64 (kH l (p, 0)).1.sn), .val (.int .i64 (kH l (p, 0)).1.mn), .arr 0], .val (.int .i64 ((kH l (p, 0)).2 : Nat)), .val (.int .i64 0)]) [.arx 30 1 ((kH l (p, 0)).1.ps).length (((kH l (p, 0)).1.ps).flatMap fun b => [rwB b])] := by
 refine qj (N := 34) 0 (by kernel_rfl) Tryz.func37 rfl rfl rfl (by simp only [fr0, qau, qaw]; exact rfl) rfl fun s0 hs0 => ?_
 refine qD rfl hs0 ?_
 refine zam 3 ?_
 refine zac ?_
 refine zaj rfl (qG 0 rfl (ev1 rfl) rfl) ?_
 refine zaj rfl (zan 1 rfl xE rfl) ?_
 refine zaa 1 rfl ?_
 refine zaj rfl (zan 2 rfl jO rfl) ?_
 refine zab ?_
 refine qn (l0 := [_]) rfl rfl rfl rfl rfl hs0 ?_
 refine za rfl (qV rfl en (ec (ev1 rfl) en)) ?_
 refine zab ⟨_, _, _, 3, ev1 rfl, qaM hs0 (by decide), rfl, ?_⟩
 have hs1 : s0.M.length ≤ 3 := qaM hs0 (by decide)
 refine qC rfl hs0 ?_
 refine zae ?_
 refine zam 2 ?_
 refine zac ?_
 refine za rfl (qo rfl jt (ev1 rfl) rfl rfl) ?_
 refine zaj rfl (zai [] [] [3, 4] rfl (ev1 rfl) (ec (ev1 rfl) en) rfl rfl (ud p hn hb hp) rfl rfl rfl (by exact (wrc rfl (wrc (by first | exact rfl | exact kK (fun _ => rfl) | exact ke (ql (fun _ => rfl) _) | exact kg (fun _ => rfl) | exact ki (fun _ => rfl)) rfl))) rfl rfl) ?_
 refine zaa 1 rfl ?_
 refine zab ?_
 refine zah ?_
 refine zaa 1 rfl ?_
 refine za rfl (qV rfl (ec (ev1 rfl) en) en) ?_
 refine zaa 1 rfl ?_
 refine zab ?_
 refine zae ?_
 refine zah ?_
 refine zaa 1 rfl ?_
 refine za rfl (jr rfl jV (ev1 rfl)) ?_
 refine zaa 1 rfl ?_
 refine zab ?_
 refine zas ?_
 refine qI ⟨hs1, rfl⟩ (α := Nat) (fun k => [(5, .val (.int .i64 ((kH (l.take k) (p, 0)).2 : Nat))), (18, .val (.int .i64 (k : Int)))]) [(4, _), (6, _), (7, _), (8, _), (16, _), (17, _)] (fun k => [(3, .mix 118 [.val (.int .u64 (kH (l.take k) (p, 0)).1.sn), .val (.int .i64 (kH (l.take k) (p, 0)).1.mn), .arr 4]), (4, .arx 30 1 ((kH (l.take k) (p, 0)).1.ps).length (((kH (l.take k) (p, 0)).1.ps).flatMap fun b => [rwB b]))]) [_, _, _, .hole, .hole] (fun k => k ≤ l.length) (fun k => l.length - k) 0 [0, 1, 2, 3, 4] (qa5 _) rfl ⟨rfl, rfl, rfl, rfl, rfl, rfl, trivial⟩ ⟨rfl, rfl, trivial⟩ ⟨rfl, rfl, rfl, rfl, qB rfl rfl (fun _ => rfl), trivial⟩ ?_
 intro k hx
 simp only [upd, zad, zaf, qaE, qaH]
 have hk := hx
 obtain ⟨hqk, hqn⟩ := GY hp (l.take k) 0
 rw [qaT] at hqn
 refine zah ?_
 refine za rfl (qA rfl (ev1 rfl) (ev1 rfl)) ?_
 refine zab ?_
 refine zae ?_
 refine qe rfl (fun c1 => ?_) (fun c1 => ?_)
 ·try simp only [decide_eq_true_eq, decide_eq_false_iff_not, beq_iff_eq, bne_iff_ne, beq_eq_false_iff_ne, bne_eq_false_iff_eq, qaz, qaA, qav, qaB, qax, ne_eq, Decidable.not_not, qaQ, qaR] at c1
  refine zao ?_
  refine zae ?_
  refine zas ?_
  refine zae ?_
  refine zam 1 ?_
  refine zac ?_
  refine za rfl (yU (k) (by decide) rfl jV (ev1 rfl) (ev1 rfl) (fun _ => rfl) (by omega) (fun _ => rfl)) ?_
  refine za rfl (yV rfl kx (ev1 rfl) rfl rfl) ?_
  refine zaj rfl (zan 5 rfl k9 rfl) ?_
  refine zar rfl (kt rfl kx (ev1 rfl) (ev1 rfl) rfl rfl rfl rfl) ?_
  refine zab ?_
  refine zae ?_
  by_cases h0 : (gd (kH (l.take k) (p, 0)).1 l[k]).1 = 0
  ·by_cases h2 : (kH (l.take k) (p, 0)).1.sn < l[k].sn
   ·obtain ⟨hx, hq2⟩ := ZM hqk l[k] h0 h2
    have hq1 : (kH (l.take (k + 1)) (p, 0)).1 = (gd (kH (l.take k) (p, 0)).1 l[k]).2 := by rw [gW _ _ (by omega)]
    rw [hq2] at hq1
    have hc1 : (kH (l.take (k + 1)) (p, 0)).2 = (kH (l.take k) (p, 0)).2 := by rw [gW _ _ (by omega)]; exact if_pos h0
    
    refine zam 1 ?_
    refine zac ?_
    refine zaa 1 rfl ?_
    refine za rfl (qo rfl kx (ev1 rfl) rfl rfl) ?_
    refine zaj rfl (zai [3, 4] [] [6] rfl (ev1 rfl) (ec (ev1 rfl) en) rfl (by exact jw _ _ ⟨rfl, (by first | exact rfl | exact arx_fits rfl rfl (vwL_flat (fun _ => rfl) _) | exact km rfl rfl (ql (fun _ => rfl) _) | exact qB rfl rfl (fun _ => rfl) | exact qO rfl rfl (fun _ => rfl)), trivial⟩) (try_n (kH (l.take k) (p, 0)).1 l[k] hx h2) rfl rfl rfl (by exact (wrc rfl (wrc (by first | exact rfl | exact kK (fun _ => rfl) | exact ke (ql (fun _ => rfl) _) | exact kg (fun _ => rfl) | exact ki (fun _ => rfl)) (wrc (by first | exact rfl | exact kK (fun _ => rfl) | exact ke (ql (fun _ => rfl) _) | exact kg (fun _ => rfl) | exact ki (fun _ => rfl)) rfl)))) rfl rfl) ?_
    refine za rfl (ka rfl (ev1 rfl) (ev1 rfl)) ?_
    refine zab ?_
    refine qc rfl (rfl) ?_
    refine zao ?_
    refine zac ?_
    refine za rfl (qh rfl (ev1 rfl) (ev1 rfl) (fun _ => qaC _ (by omega))) ?_
    refine zaa 1 rfl ?_
    refine zab ?_
    refine ⟨k + 1, [0, 1, 2, 3, 6], by omega, by simp only []; omega, rfl, ⟨by rw [hc1]; rfl, rfl, rfl, rfl, rfl, rfl, rfl, rfl, trivial⟩, ⟨rfl, rfl, rfl, by rw [hq1]; rfl, by rw [hq1]; exact qB (by simp) rfl (fun _ => rfl), trivial⟩⟩
   ·obtain ⟨hx, h3, h4, ⟨h5, h6⟩, hq2⟩ := U1 hqk l[k] h0 h2
    have hq1 : (kH (l.take (k + 1)) (p, 0)).1 = (gd (kH (l.take k) (p, 0)).1 l[k]).2 := by rw [gW _ _ (by omega)]
    rw [hq2] at hq1
    have hc1 : (kH (l.take (k + 1)) (p, 0)).2 = (kH (l.take k) (p, 0)).2 := by rw [gW _ _ (by omega)]; exact if_pos h0
    
    refine zac ?_
    refine zaa 1 rfl ?_
    refine za rfl (qo rfl kx (ev1 rfl) rfl rfl) ?_
    refine zaj rfl (zai [3, 4] [] [] rfl (ev1 rfl) (ec (ev1 rfl) en) rfl (by exact jw _ _ ⟨rfl, (by first | exact rfl | exact arx_fits rfl rfl (vwL_flat (fun _ => rfl) _) | exact km rfl rfl (ql (fun _ => rfl) _) | exact qB rfl rfl (fun _ => rfl) | exact qO rfl rfl (fun _ => rfl)), trivial⟩) (try_s (kH (l.take k) (p, 0)).1 l[k] hx h3 h4 h5 h6) rfl rfl rfl (by exact (wrc rfl (wrc (by first | exact rfl | exact kK (fun _ => rfl) | exact ke (ql (fun _ => rfl) _) | exact kg (fun _ => rfl) | exact ki (fun _ => rfl)) rfl))) rfl rfl) ?_
    refine za rfl (ka rfl (ev1 rfl) (ev1 rfl)) ?_
    refine zab ?_
    refine qc rfl (rfl) ?_
    refine zao ?_
    refine zac ?_
    refine za rfl (qh rfl (ev1 rfl) (ev1 rfl) (fun _ => qaC _ (by omega))) ?_
    refine zaa 1 rfl ?_
    refine zab ?_
    refine ⟨k + 1, [0, 1, 2, 3, 4], by omega, by simp only []; omega, rfl, ⟨by rw [hc1]; rfl, rfl, rfl, rfl, rfl, rfl, rfl, rfl, trivial⟩, ⟨rfl, rfl, rfl, by rw [hq1]; rfl, by rw [hq1]; exact qB (by simp) rfl (fun _ => rfl), trivial⟩⟩
  ·have hpe := ZN hqk l[k] h0
   obtain ⟨e, he⟩ : ∃ e, (gd (kH (l.take k) (p, 0)).1 l[k]).1 = e := ⟨_, rfl⟩
   rw [he] at hpe h0
   have hq1 : (kH (l.take (k + 1)) (p, 0)).1 = (gd (kH (l.take k) (p, 0)).1 l[k]).2 := by rw [gW _ _ (by omega)]
   rw [hpe] at hq1
   have hc1 : (kH (l.take (k + 1)) (p, 0)).2 = (kH (l.take k) (p, 0)).2 + 1 := by rw [gW _ _ (by omega)]; exact if_neg (by rw [he]; exact h0)
   refine zac ?_
   refine zaa 1 rfl ?_
   refine za rfl (qo rfl kx (ev1 rfl) rfl rfl) ?_
   refine zaj rfl (zai [3, 4] [] [] rfl (ev1 rfl) (ec (ev1 rfl) en) rfl (by exact jw _ _ ⟨rfl, (by first | exact rfl | exact arx_fits rfl rfl (vwL_flat (fun _ => rfl) _) | exact km rfl rfl (ql (fun _ => rfl) _) | exact qB rfl rfl (fun _ => rfl) | exact qO rfl rfl (fun _ => rfl)), trivial⟩) (try_e (kH (l.take k) (p, 0)).1 l[k] hqk e h0 hpe) rfl rfl rfl (by exact (wrc rfl (wrc (by first | exact rfl | exact kK (fun _ => rfl) | exact ke (ql (fun _ => rfl) _) | exact kg (fun _ => rfl) | exact ki (fun _ => rfl)) rfl))) rfl rfl) ?_
   refine za rfl (ka rfl (ev1 rfl) (ev1 rfl)) ?_
   refine zab ?_
   refine qM rfl (by simpa using h0) ?_
   refine zac ?_
   refine zaa 1 rfl ?_
   refine za rfl (qh rfl (ev1 rfl) (ev1 rfl) (fun _ => qaC _ (by omega))) ?_
   refine zaa 1 rfl ?_
   refine zab ?_
   refine zac ?_
   refine za rfl (qh rfl (ev1 rfl) (ev1 rfl) (fun _ => qaC _ (by omega))) ?_
   refine zaa 1 rfl ?_
   refine zab ?_
   refine ⟨k + 1, [0, 1, 2, 3, 4], by omega, by simp only []; omega, rfl, ⟨by rw [hc1]; rfl, rfl, rfl, rfl, rfl, rfl, rfl, rfl, trivial⟩, ⟨rfl, rfl, rfl, by rw [hq1]; rfl, by rw [hq1]; exact qB (by simp) rfl (fun _ => rfl), trivial⟩⟩
 ·try simp only [decide_eq_true_eq, decide_eq_false_iff_not, beq_iff_eq, bne_iff_ne, beq_eq_false_iff_ne, bne_eq_false_iff_eq, qaz, qaA, qav, qaB, qax, ne_eq, Decidable.not_not, qaQ, qaR] at c1
  refine qr ?_
  refine zae ?_
  obtain rfl : k = l.length := by omega
  rw [List.take_length]
  refine zac ?_
  refine zaa 1 rfl ?_
  refine za rfl (qw rfl (ev1 rfl) (fun s v h => by cases h; exact ⟨_, rfl⟩)) ?_
  refine za rfl (qa rfl kQ (ev1 rfl)) ?_
  refine za rfl (qo rfl jt (ev1 rfl) rfl rfl) ?_
  refine zaa 1 rfl ?_
  refine zar rfl (kt rfl jt (ev1 rfl) (ev1 rfl) rfl rfl rfl rfl) ?_
  refine zaa 1 rfl ?_
  refine zar rfl (qH rfl qT (ev1 rfl) (ev1 rfl) rfl) ?_
  refine zab ?_
  refine qb ?_
  refine jI (kF [2] [] rfl rfl (GV _) rfl rfl rfl rfl rfl) ?_
  refine qY [4] (rs3 rfl (we jt rfl rfl rfl) (qJ rfl) (js qT rfl rfl rfl)) rfl rfl ?_ ⟨?_, trivial⟩
  rfl
  exact qB rfl rfl (fun _ => rfl)
theorem ZP (p : PiM) (hp : ji p = true) (l : List PcM) (hl : l.length ≤ 100000) : DFun Tryz.prog 37 [.agg (piD p), .slm 4 l.length (l.flatMap pcD)] [] (.tup [.agg (piD (kH l (p, 0)).1), .val (.int .i64 ((kH l (p, 0)).2 : Nat)), .val (.int .i64 0)]) [] := y3 (ZO p (by have := (vj hp).1; omega) (fun b hb => by have := (vj hp).2 b hb; omega) hp l hl) (WN JB)
def wo (p : PiM) : Int × Bool := if noB p = true then (0, true) else if yK p.ps 0 < 0 then (0, false) else if ji p = true then (yK p.ps 0, true) else (0, false)
def ue (p : PiM) : Bool := !((noB p || decide (0 ≤ yK p.ps 0)) || !(ji p))
theorem U2 (p : PiM) (hn : p.ps.length ≤ 5000) : DFun Tryz.prog 33 [.agg (piD p)] [] (.tup [.val (.int .i64 (wo p).1), .val (.bool (wo p).2)]) [] := by
 refine zap (N := 17) 0 (by kernel_rfl) Tryz.func33 rfl rfl rfl (by simp only [fr0, qau, qaw]; exact rfl) rfl fun s0 hs0 => ?_
 refine zae ?_
 refine zam 1 ?_
 refine zac ?_
 refine zaj rfl (qG 0 rfl (ev1 rfl) rfl) ?_
 refine zaa 2 rfl ?_
 refine zab ?_
 refine zae ?_
 refine zah ?_
 refine za rfl (qo rfl jt (ev1 rfl) rfl rfl) ?_
 refine za rfl (zai [] [] [] rfl (ev1 rfl) (ec (ev1 rfl) en) rfl rfl (wC _) rfl rfl rfl rfl rfl rfl) ?_
 refine zab ?_
 refine qe rfl (fun c1 => ?_) (fun c1 => ?_)
 ·refine zah ?_
  refine zaa 2 rfl ?_
  refine zab ?_
  refine qb ?_
  refine qx (rs2 rfl (qJ rfl) (qJ rfl)) rfl ?_
  have h : wo p = (0, true) := by unfold wo; rw [if_pos c1]
  rw [h]
 ·refine zao ?_
  refine zah ?_
  refine za rfl (qo rfl jt (ev1 rfl) rfl rfl) ?_
  refine za rfl (zai [] [] [] rfl (ev1 rfl) (ec (ev1 rfl) en) rfl rfl (xj _) rfl rfl rfl rfl rfl rfl) ?_
  refine zaa 1 rfl ?_
  refine zab ?_
  refine zae ?_
  refine zah ?_
  refine zaa 1 rfl ?_
  refine za rfl (qA rfl (ev1 rfl) (ev1 rfl)) ?_
  refine zaa 1 rfl ?_
  refine zak (qm rfl rfl rfl) rfl rfl rfl (qo rfl jt (ev1 rfl) rfl rfl) ?_
  refine zak (qm rfl rfl rfl) rfl rfl rfl (zai [] [] [] rfl (ev1 rfl) (ec (ev2 rfl) en) rfl rfl (Jy p hn) rfl rfl rfl rfl rfl rfl) ?_
  refine zak (qm rfl rfl rfl) rfl rfl rfl (ka rfl (ev2 rfl) (ev1 rfl)) ?_
  refine za rfl (kA rfl (ev1 rfl) (ev3 rfl id)) ?_
  refine zab ?_
  refine qe rfl (fun c2 => ?_) (fun c2 => ?_)
  ·refine zah ?_
   refine zaa 2 rfl ?_
   refine zab ?_
   refine qb ?_
   refine qx (rs2 rfl (qJ rfl) (qJ rfl)) rfl ?_
   have h : wo p = (0, false) := by
    unfold wo
    rw [if_neg (by rw [c1]; decide)]
    rw [ye _ (by decide), qaB, decide_eq_true_eq] at c2
    rcases c2 with c2 | c2
    ·rw [if_pos c2]
    ·rw [if_neg (show ¬ ji p = true by simpa using c2)]; split <;> rfl
   rw [h]
  ·refine zao ?_
   refine zah ?_
   refine zaa 3 rfl ?_
   refine zab ?_
   refine qb ?_
   refine qx (rs2 rfl (qJ rfl) (qJ rfl)) rfl ?_
   have h : wo p = (yK p.ps 0, true) := by
    unfold wo
    rw [ye _ (by decide), qax, decide_eq_false_iff_not] at c2
    rw [if_neg (by rw [c1]; decide), if_neg c2.1, if_pos (by simpa using c2.2)]
   rw [h]
theorem ZQ (p : PiM) (hn : p.ps.length ≤ 5000) (hw : ue p = false) : DFun Tryz.prog 35 [.agg (piD p)] [] (.tup [.val (.slice none 0 0), .val (.bool false)]) [] := by
 refine zap (N := 19) 0 (by kernel_rfl) Tryz.func35 rfl rfl rfl (by simp only [fr0, qau, qaw]; exact rfl) rfl fun s0 hs0 => ?_
 refine zae ?_
 refine zam 1 ?_
 refine zac ?_
 refine zaj rfl (qG 0 rfl (ev1 rfl) rfl) ?_
 refine zaa 2 rfl ?_
 refine zab ?_
 refine zae ?_
 refine zah ?_
 refine za rfl (qo rfl jt (ev1 rfl) rfl rfl) ?_
 refine za rfl (zai [] [] [] rfl (ev1 rfl) (ec (ev1 rfl) en) rfl rfl (wC _) rfl rfl rfl rfl rfl rfl) ?_
 refine zaa 1 rfl ?_
 refine zak (qm rfl rfl rfl) rfl rfl rfl (qo rfl jt (ev1 rfl) rfl rfl) ?_
 refine zak (qm rfl rfl rfl) rfl rfl rfl (zai [] [] [] rfl (ev1 rfl) (ec (ev2 rfl) en) rfl rfl (xj _) rfl rfl rfl rfl rfl rfl) ?_
 refine zak (qm rfl rfl rfl) rfl rfl rfl (jY rfl (ev2 rfl) (ev1 rfl)) ?_
 refine za rfl (kA rfl (ev1 rfl) (ev3 rfl id)) ?_
 refine zaa 1 rfl ?_
 refine zak (qm rfl rfl rfl) rfl rfl rfl (qo rfl jt (ev1 rfl) rfl rfl) ?_
 refine zak (qm rfl rfl rfl) rfl rfl rfl (zai [] [] [] rfl (ev1 rfl) (ec (ev2 rfl) en) rfl rfl (Jy p hn) rfl rfl rfl rfl rfl rfl) ?_
 refine zak (qm rfl rfl rfl) rfl rfl rfl (ka rfl (ev2 rfl) (ev1 rfl)) ?_
 refine za rfl (kA rfl (ev1 rfl) (ev3 rfl id)) ?_
 refine zab ?_
 refine qM rfl (by rw [ye _ (by decide)]; unfold ue at hw; rw [qaA] at hw; exact hw) ?_
 refine zah ?_
 refine zaa 2 rfl ?_
 refine zab ?_
 refine qb ?_
 refine qx (rs2 rfl (qJ rfl) (qJ rfl)) rfl ?_
 rfl
theorem ZR (p : PiM) (hn : p.ps.length ≤ 5000) (hw : ue p = true) (hf : p.ps.flatten.length ≤ 100000000) : DFun Tryz.prog 35 [.agg (piD p)] [] (.tup [.slf 1 (p.ps.flatten).length ((p.ps.flatten).flatMap uc8), .val (.bool true)]) [] := by
 refine zap (N := 19) 0 (by kernel_rfl) Tryz.func35 rfl rfl rfl (by simp only [fr0, qau, qaw]; exact rfl) rfl fun s0 hs0 => ?_
 refine zae ?_
 refine zam 1 ?_
 refine zac ?_
 refine zaj rfl (qG 0 rfl (ev1 rfl) rfl) ?_
 refine zaa 2 rfl ?_
 refine zab ?_
 refine zae ?_
 refine zah ?_
 refine za rfl (qo rfl jt (ev1 rfl) rfl rfl) ?_
 refine za rfl (zai [] [] [] rfl (ev1 rfl) (ec (ev1 rfl) en) rfl rfl (wC _) rfl rfl rfl rfl rfl rfl) ?_
 refine zaa 1 rfl ?_
 refine zak (qm rfl rfl rfl) rfl rfl rfl (qo rfl jt (ev1 rfl) rfl rfl) ?_
 refine zak (qm rfl rfl rfl) rfl rfl rfl (zai [] [] [] rfl (ev1 rfl) (ec (ev2 rfl) en) rfl rfl (xj _) rfl rfl rfl rfl rfl rfl) ?_
 refine zak (qm rfl rfl rfl) rfl rfl rfl (jY rfl (ev2 rfl) (ev1 rfl)) ?_
 refine za rfl (kA rfl (ev1 rfl) (ev3 rfl id)) ?_
 refine zaa 1 rfl ?_
 refine zak (qm rfl rfl rfl) rfl rfl rfl (qo rfl jt (ev1 rfl) rfl rfl) ?_
 refine zak (qm rfl rfl rfl) rfl rfl rfl (zai [] [] [] rfl (ev1 rfl) (ec (ev2 rfl) en) rfl rfl (Jy p hn) rfl rfl rfl rfl rfl rfl) ?_
 refine zak (qm rfl rfl rfl) rfl rfl rfl (ka rfl (ev2 rfl) (ev1 rfl)) ?_
 refine za rfl (kA rfl (ev1 rfl) (ev3 rfl id)) ?_
 refine zab ?_
 refine qc rfl (by rw [ye _ (by decide)]; unfold ue at hw; rw [qaz] at hw; exact hw) ?_
 refine zao ?_
 refine zah ?_
 refine za rfl (qa rfl gU (ev1 rfl)) ?_
 refine za rfl (zaq rfl xh (ev1 rfl) rfl rfl) ?_
 refine za rfl (zai [] [] [] rfl (ev1 rfl) (ec (ev1 rfl) en) rfl rfl (GS p.ps _ _ rfl rfl hf) rfl rfl rfl rfl rfl rfl) ?_
 refine zaa 2 rfl ?_
 refine zab ?_
 refine qb ?_
 refine qx (rs2 rfl (qJ rfl) (qJ rfl)) rfl ?_
 rfl
end Go.Proofs.YtofklkbfkoliiaaGreat
namespace Go.Proofs.YtofklkbfkoliiaaGreat
set_option linter.unusedVariables false
set_option linter.unusedSimpArgs false
open Go.RowKit
attribute [local irreducible] tkN jK ky
theorem VS : tyB Tryz.prog 48 = some (false, 1) := by kernel_rfl
theorem zr48 : zrC Tryz.prog 48 = some [.slice none 0 0] := by kernel_rfl
def mnN (b : List Int) : Nat := (b.length + 255) / 256
def kY (b : List Int) (k : Nat) : List Int := (b.drop (k * 256)).take (min b.length ((k + 1) * 256) - k * 256)
theorem ge (b : List Int) (k : Nat) : (kY b k).length ≤ 256 := by
 unfold kY
 rw [qaT]
 omega
def pcK (sn : Int) (b : List Int) (k : Nat) : PcM := ⟨sn, k, mnN b, kY b k⟩
def y8 (sn : Int) (b : List Int) : List PcM := (qaY (mnN b)).map (pcK sn b)
theorem U3 (sn : Int) (b : List Int) (k : Nat) : (qaY (k + 1)).map (pcK sn b) = (qaY k).map (pcK sn b) ++ [pcK sn b k] := by
 rw [List.range_succ, List.map_append]; rfl
theorem GZ (l : List PcM) : D.nlL (l.flatMap pcD) = true := by
 induction l with
 | nil => rfl
 | cons b r ih => rw [qaL]; exact ih
theorem JC {σ : List Nat} {V : Nat → Bool} {M : List Blk} {T : TypeId} {n n' : Nat} {l l' : List PcM} (hn : n = n') (hl : l = l') : (vwL σ V M (l.flatMap pcD)).map (Blk.arx T 4 n) = some (Blk.arx T 4 n' (l'.flatMap pcD)) := qO hn hl (fun _ => rfl)
theorem QP (sn : Int) (b : List Int) (h1 : snB sn = true) (h2 : 0 < b.length) (h3 : b.length ≤ 16384) : DFun Tryz.prog 64 [.val (.int .u64 sn), .slf 1 (b).length ((b).flatMap uc8)] [] (.fn (.func 101) [] [.loc 0 0, .loc 1 0, .loc 2 0]) [.flat 3 [.int .i64 (mnN b : Nat)], .mix 30 [.slf 1 (b).length ((b).flatMap uc8)], .flat 25 [.int .u64 sn]] := by
 refine zap (N := 28) 0 (by kernel_rfl) Tryz.func64 rfl rfl rfl (by simp only [fr0, qau, qaw]; exact rfl) rfl fun s0 hs0 => ?_
 refine kG (t := 1) rfl fun hl1 hL1 => ?_
 refine zae ?_
 refine zam 2 ?_
 refine zac ?_
 refine zaj rfl (gD 0 rfl (ev1 rfl) rfl) ?_
 refine zaj rfl (ga 1 rfl (ev1 rfl) (fun s v h => by cases h <;> rfl) rfl) ?_
 refine zaa 1 rfl ?_
 refine zab ?_
 refine zah ?_
 refine za rfl (qi rfl ku (ev1 rfl) rfl rfl) ?_
 refine za rfl (jY rfl (ev1 rfl) (ev1 rfl)) ?_
 refine zaa 1 rfl ?_
 refine zak (qz rfl rfl rfl) rfl rfl rfl (qi rfl ku (ev1 rfl) rfl rfl) ?_
 refine zak (qz rfl rfl rfl) rfl rfl rfl (yD rfl (ev2 rfl) (ev1 rfl)) ?_
 refine za rfl (q0 rfl (ev1 rfl) (ev3 rfl id)) ?_
 refine zaa 1 rfl ?_
 refine zak (qz rfl rfl rfl) rfl rfl rfl (zaq rfl kC (ev1 rfl) rfl rfl) ?_
 refine zak (qz rfl rfl rfl) rfl rfl rfl (qt rfl qu (ev2 rfl)) ?_
 refine zak (qz rfl rfl rfl) rfl rfl rfl (kE rfl (ev2 rfl) (ev1 rfl)) ?_
 refine za rfl (q0 rfl (ev1 rfl) (ev3 rfl id)) ?_
 refine za rfl (zai [] [] [] rfl (ev1 rfl) (ec (ev1 rfl) (ec (ev1 rfl) en)) rfl rfl (kc _ _ (by unfold snB at h1; rw [h1, decide_eq_true (by omega)]; rfl)) rfl rfl rfl rfl rfl rfl) ?_
 refine zab ?_
 refine zah ?_
 refine za rfl (zaq rfl kC (ev1 rfl) rfl rfl) ?_
 refine za rfl (qt rfl qu (ev1 rfl)) ?_
 refine za rfl (yD rfl (ev1 rfl) (ev1 rfl)) ?_
 refine za rfl (zai [] [] [] rfl (ev1 rfl) (ec (ev1 rfl) (ec (ev1 rfl) en)) rfl rfl (kc _ _ (decide_eq_true (by omega))) rfl rfl rfl rfl rfl rfl) ?_
 refine zab ?_
 refine zae ?_
 refine zam 1 ?_
 refine zac ?_
 refine za rfl (zaq rfl kC (ev1 rfl) rfl rfl) ?_
 refine za rfl (qt rfl qu (ev1 rfl)) ?_
 refine za rfl (qh rfl (ev1 rfl) (ev1 rfl) (fun _ => qaC _ (by omega))) ?_
 refine za rfl (jJ rfl (ev1 rfl) (ev1 rfl) (fun _ => qaC _ (by omega))) ?_
 refine za rfl ((XB rfl (ev1 rfl) (ev1 rfl) (fun _ => ⟨by omega, by omega, qaC _ (by omega)⟩)).cast (d' := .val (.int .i64 (mnN b : Nat))) (by unfold mnN; simp; omega)) ?_
 refine zaj rfl (zan 2 rfl zr3 rfl) ?_
 refine zar rfl (qH rfl tb3 (ev1 rfl) (ev1 rfl) rfl) ?_
 refine zab ?_
 refine zah ?_
 refine za rfl (qV rfl en (ec (ev1 rfl) (ec (ev1 rfl) (ec (ev1 rfl) en)))) ?_
 refine zaa 1 rfl ?_
 refine zab ?_
 refine qb ?_
 refine qY [2, 1, 0] (rs1 rfl (qJ rfl)) rfl rfl ?_ ⟨rfl, rfl, rfl, trivial⟩
 rfl
theorem U4 (sn : Int) (b : List Int) (h1 : (snB sn && decide ((0 : Int) < (b.length : Int))) = false) : DPan Tryz.prog 64 [.val (.int .u64 sn), .slf 1 (b).length ((b).flatMap uc8)] [] (.ifc 125 (.val (.agg #[.int .i64 2]))) [] := by
 refine zap (N := 28) 0 (by kernel_rfl) Tryz.func64 rfl rfl rfl (by simp only [fr0, qau, qaw]; exact rfl) rfl fun s0 hs0 => ?_
 refine kG (t := 1) rfl fun hl1 hL1 => ?_
 refine zae ?_
 refine zam 2 ?_
 refine zac ?_
 refine zaj rfl (gD 0 rfl (ev1 rfl) rfl) ?_
 refine zaj rfl (ga 1 rfl (ev1 rfl) (fun s v h => by cases h <;> rfl) rfl) ?_
 refine zaa 1 rfl ?_
 refine zab ?_
 refine zah ?_
 refine za rfl (qi rfl ku (ev1 rfl) rfl rfl) ?_
 refine za rfl (jY rfl (ev1 rfl) (ev1 rfl)) ?_
 refine zaa 1 rfl ?_
 refine zak (qz rfl rfl rfl) rfl rfl rfl (qi rfl ku (ev1 rfl) rfl rfl) ?_
 refine zak (qz rfl rfl rfl) rfl rfl rfl (yD rfl (ev2 rfl) (ev1 rfl)) ?_
 refine za rfl (q0 rfl (ev1 rfl) (ev3 rfl id)) ?_
 refine zaa 1 rfl ?_
 refine zak (qz rfl rfl rfl) rfl rfl rfl (zaq rfl kC (ev1 rfl) rfl rfl) ?_
 refine zak (qz rfl rfl rfl) rfl rfl rfl (qt rfl qu (ev2 rfl)) ?_
 refine zak (qz rfl rfl rfl) rfl rfl rfl (kE rfl (ev2 rfl) (ev1 rfl)) ?_
 refine za rfl (q0 rfl (ev1 rfl) (ev3 rfl id)) ?_
 refine qZ rfl (qE [] [] [] rfl (ev1 rfl) (ec (ev1 rfl) (ec (ev1 rfl) en)) rfl rfl (j4 _ _ (h1)) rfl rfl rfl rfl rfl rfl) rfl ?_
 refine JY rfl ?_
 rfl
theorem U5 (sn : Int) (b : List Int) (h1 : snB sn = true) (h3 : 16384 < b.length) : DPan Tryz.prog 64 [.val (.int .u64 sn), .slf 1 (b).length ((b).flatMap uc8)] [] (.ifc 125 (.val (.agg #[.int .i64 3]))) [] := by
 refine zap (N := 28) 0 (by kernel_rfl) Tryz.func64 rfl rfl rfl (by simp only [fr0, qau, qaw]; exact rfl) rfl fun s0 hs0 => ?_
 refine kG (t := 1) rfl fun hl1 hL1 => ?_
 refine zae ?_
 refine zam 2 ?_
 refine zac ?_
 refine zaj rfl (gD 0 rfl (ev1 rfl) rfl) ?_
 refine zaj rfl (ga 1 rfl (ev1 rfl) (fun s v h => by cases h <;> rfl) rfl) ?_
 refine zaa 1 rfl ?_
 refine zab ?_
 refine zah ?_
 refine za rfl (qi rfl ku (ev1 rfl) rfl rfl) ?_
 refine za rfl (jY rfl (ev1 rfl) (ev1 rfl)) ?_
 refine zaa 1 rfl ?_
 refine zak (qz rfl rfl rfl) rfl rfl rfl (qi rfl ku (ev1 rfl) rfl rfl) ?_
 refine zak (qz rfl rfl rfl) rfl rfl rfl (yD rfl (ev2 rfl) (ev1 rfl)) ?_
 refine za rfl (q0 rfl (ev1 rfl) (ev3 rfl id)) ?_
 refine zaa 1 rfl ?_
 refine zak (qz rfl rfl rfl) rfl rfl rfl (zaq rfl kC (ev1 rfl) rfl rfl) ?_
 refine zak (qz rfl rfl rfl) rfl rfl rfl (qt rfl qu (ev2 rfl)) ?_
 refine zak (qz rfl rfl rfl) rfl rfl rfl (kE rfl (ev2 rfl) (ev1 rfl)) ?_
 refine za rfl (q0 rfl (ev1 rfl) (ev3 rfl id)) ?_
 refine za rfl (zai [] [] [] rfl (ev1 rfl) (ec (ev1 rfl) (ec (ev1 rfl) en)) rfl rfl (kc _ _ (by unfold snB at h1; rw [h1, decide_eq_true (by omega)]; rfl)) rfl rfl rfl rfl rfl rfl) ?_
 refine zab ?_
 refine zah ?_
 refine za rfl (zaq rfl kC (ev1 rfl) rfl rfl) ?_
 refine za rfl (qt rfl qu (ev1 rfl)) ?_
 refine za rfl (yD rfl (ev1 rfl) (ev1 rfl)) ?_
 refine qZ rfl (qE [] [] [] rfl (ev1 rfl) (ec (ev1 rfl) (ec (ev1 rfl) en)) rfl rfl (j4 _ _ (decide_eq_false (by omega))) rfl rfl rfl rfl rfl rfl) rfl ?_
 refine JY rfl ?_
 rfl
noncomputable def G0 : Code := rfA (pth [1, 1, 1, 0, 1, 0] (y1 Tryz.f19))
noncomputable def G1 : Code := rfB (pth [1, 1, 1, 0, 1, 0] (y1 Tryz.f19))
theorem G2 (R : List PcM) (x : PcM) (hR : R.length ≤ 1000) : DRound Tryz.prog 0 [.agg (pcD x)] [.lp none 18 [(6, .loc 1 0)] #[12] G0 G1 .ready none, .mix 48 [.arr 2], .arx 53 4 (R).length ((R).flatMap pcD)] true [.lp none 18 [(6, .loc 1 0)] #[12] G0 G1 .ready none, .mix 48 [.arr 3], .gone, .arx 53 4 ((R ++ [x])).length (((R ++ [x])).flatMap pcD)] := by
 refine gb 3 rfl rfl (by simp) rfl rfl fun s0 hs0 => ?_
 refine zam 1 ?_
 refine zac ?_
 refine zaj rfl (zan 3 rfl k9 rfl) ?_
 refine zar rfl (kt rfl kx (ev1 rfl) (ev1 rfl) rfl rfl rfl rfl) ?_
 refine zab ?_
 refine ⟨rfl, ?_⟩
 simp only [zad, zaf]
 refine zas ?_
 refine zam 1 ?_
 refine zac ?_
 refine za rfl (zaq rfl VS (ev1 rfl) rfl rfl) ?_
 refine za rfl (qo rfl kx (ev1 rfl) rfl rfl) ?_
 refine za rfl (zp (ps := [(0, .tmp 14)]) rfl jV k9 rfl (ec (ev1 rfl) en) rfl rfl rfl (by rfl) rfl (by decide) (by decide)) ?_
 refine zaj rfl (xO (j := 4) rfl jV k9 rfl (ev1 rfl) (ev1 rfl) rfl rfl (rfl) (fun _ => ⟨by omega, by omega⟩)) ?_
 refine zar rfl (kL rfl VS (ev1 rfl) (ev1 rfl) (fun s v h => by cases h <;> exact ⟨rfl, rfl⟩) rfl (by first | decide | exact qaF rfl | simp)) ?_
 refine zab ?_
 refine ⟨rfl, rfl, [0, 1, 2, 4], rfl, ⟨rfl, rfl, rfl, km (by simp) (by rw [qbg]; rfl) (GZ _), trivial⟩⟩
theorem qab (sn : Int) (b : List Int) (h2 : 0 < b.length) (h3 : b.length ≤ 16384) : DFun Tryz.prog 101 [.yld 0, .loc 3 0, .loc 4 0, .loc 5 0] [.lp none 18 [(6, .loc 1 0)] #[12] G0 G1 .ready none, .mix 48 [.arr 2], .arx 53 4 (([] : List PcM)).length ((([] : List PcM)).flatMap pcD), .flat 3 [.int .i64 (mnN b : Nat)], .mix 30 [.slf 1 (b).length ((b).flatMap uc8)], .flat 25 [.int .u64 sn]] (.tup []) [.lp none 18 [(6, .loc 1 0)] #[12] G0 G1 .ready none, .mix 48 [.arr 6], .gone, .flat 3 [.int .i64 (mnN b : Nat)], .mix 30 [.slf 1 (b).length ((b).flatMap uc8)], .flat 25 [.int .u64 sn], .arx 53 4 ((y8 sn b)).length (((y8 sn b)).flatMap pcD)] := by
 have hmn : mnN b = (b.length + 255) / 256 := rfl
 refine zap (N := 34) 6 (by kernel_rfl) Tryz.func101 rfl rfl rfl (by simp only [fr0, qau, qaw]; exact rfl) rfl fun s0 hs0 => ?_
 refine zah ?_
 refine za rfl (qi rfl tb3 (ev1 rfl) rfl rfl) ?_
 refine zaa 1 rfl ?_
 refine zab ?_
 refine zas ?_
 refine jS (kp ?_)
 refine zah ?_
 refine za rfl (qA rfl (ev1 rfl) (ev1 rfl)) ?_
 refine zab ?_
 refine zae ?_
 refine qM rfl (by simp; omega) ?_
 refine zao ?_
 refine zae ?_
 refine zas ?_
 refine zah ?_
 refine zaa 2 rfl ?_
 refine zab ?_
 refine zae ?_
 refine qg [([], []), ([], []), ([4], []), ([], []), ([], []), ([], []), ([], []), ([], []), ([], []), ([], [])] qU (by kernel_rfl) ?_
 refine zag rfl rfl (zal (.inl rfl) (ev1 rfl)) ?_
 refine zag rfl rfl (jp rfl (ev1 rfl) (ev1 rfl) (fun _ => qaC _ (by omega))) ?_
 refine zag rfl rfl (zaq rfl kC (ev1 rfl) rfl rfl) ?_
 refine zag rfl rfl (qt rfl qu (ev1 rfl)) ?_
 refine zag rfl rfl (zal (.inl rfl) (ev1 rfl)) ?_
 refine zag rfl rfl (qh rfl (ev1 rfl) (ev1 rfl) (fun _ => qaC _ (by omega))) ?_
 refine zag rfl rfl (jp rfl (ev1 rfl) (ev1 rfl) (fun _ => qaC _ (by omega))) ?_
 refine zag rfl rfl (yF rfl (ev1 rfl) (ev1 rfl)) ?_
 refine zag rfl rfl (zal (.inr rfl) (ev1 rfl)) ?_
 refine zag rfl rfl (zal (.inr rfl) (ev1 rfl)) ?_
 refine qp ?_
 refine zae ?_
 refine zam 1 ?_
 refine qg [([], []), ([5], []), ([], []), ([3], []), ([4], []), ([], []), ([], []), ([], []), ([], []), ([], []), ([], []), ([0, 1, 2, 6], [0, 1, 2, 6]), ([], [])] qU (by kernel_rfl) ?_
 refine zag rfl rfl (zal (.inl rfl) (ev1 rfl)) ?_
 refine zag rfl rfl (qi rfl ku (ev1 rfl) rfl rfl) ?_
 refine zag rfl rfl (zal (.inl rfl) (ev1 rfl)) ?_
 refine zag rfl rfl (qi rfl tb3 (ev1 rfl) rfl rfl) ?_
 refine zag rfl rfl (zaq rfl kC (ev1 rfl) rfl rfl) ?_
 refine zag rfl rfl (zal (.inl rfl) (ev1 rfl)) ?_
 refine zag rfl rfl (zal (.inl rfl) (ev1 rfl)) ?_
 refine zag rfl rfl (zal (.inl rfl) (ev1 rfl)) ?_
 refine zag rfl rfl (yq (i := 0 * 256) (j := min b.length ((0 + 1) * 256)) rfl qu (ev1 rfl) (ev1 rfl) (ev1 rfl) (ev1 rfl) (fun hp => by first | omega | (simp at hp; omega)) (fun hp => by first | omega | (simp at hp; omega)) (fun hp => by first | omega | (simp at hp; omega)) (fun hp => by first | omega | (simp at hp; omega)) (fun _ => rfl)) ?_
 refine zag rfl rfl (zai [] [] [] rfl (ev1 rfl) (ec (ev1 rfl) en) rfl rfl (jP (kY b 0) (by have := ge b 0; omega)) rfl rfl rfl rfl rfl rfl) ?_
 refine zag rfl rfl (kX (ps := [(0, .tmp 21), (1, .tmp 22), (2, .tmp 23), (3, .tmp 29)]) rfl w9 k9 (ec (ev1 rfl) (ec (ev1 rfl) (ec (ev1 rfl) (ec (ev1 rfl) en)))) rfl rfl rfl) ?_
 refine gf rfl rfl (u6 (i := 0) [0, 1, 2] [] [6] rfl (ev1 rfl) (ec (ev1 rfl) en) rfl rfl (by exact jw _ _ ⟨rfl, rfl, (by first | exact rfl | exact arx_fits rfl rfl (vwL_flat (fun _ => rfl) _) | exact km rfl rfl (ql (fun _ => rfl) _) | exact qB rfl rfl (fun _ => rfl) | exact qO rfl rfl (fun _ => rfl)), trivial⟩) (G2 [] (pcK sn b 0) (by simp; try omega)) rfl rfl rfl (by exact (wrc rfl (wrc rfl (wrc rfl (wrc (by first | exact rfl | exact kK (fun _ => rfl) | exact ke (ql (fun _ => rfl) _) | exact kg (fun _ => rfl) | exact ki (fun _ => rfl)) rfl))))) rfl) rfl (by simp only [upd, zad, zaf]; exact rfl) ?_
 refine zag rfl rfl (ko rfl (ev1 rfl)) ?_
 refine qp ?_
 refine qc rfl (rfl) ?_
 refine zao ?_
 refine zac ?_
 refine za rfl (qh rfl (ev1 rfl) (ev1 rfl) (fun _ => qaC _ (by omega))) ?_
 refine zaa 1 rfl ?_
 refine zab ?_
 refine Wq ⟨hs0, rfl⟩ (α := Nat) (fun k => [(9, .val (.int .i64 (k : Int)))]) [(0, _), (1, _), (2, _), (3, _), (8, _)] (fun k => [(6, .arx 53 4 (((qaY k).map (pcK sn b))).length ((((qaY k).map (pcK sn b))).flatMap pcD))]) [_, _, _, _, _, _, .hole] (fun k => 1 ≤ k ∧ k ≤ mnN b) (fun k => mnN b - k) 1 [0, 1, 2, 3, 4, 5, 6] (⟨qaO _, by omega⟩) rfl ⟨rfl, rfl, rfl, rfl, rfl, trivial⟩ ⟨rfl, trivial⟩ ⟨rfl, rfl, rfl, rfl, rfl, rfl, by rfl, trivial⟩ ?_
 intro k hx
 simp only [upd, zad, zaf, qaE, qaH]
 obtain ⟨hk1, hk⟩ := hx
 refine zah ?_
 refine za rfl (qA rfl (ev1 rfl) (ev1 rfl)) ?_
 refine zab ?_
 refine zae ?_
 refine qe rfl (fun c3 => ?_) (fun c3 => ?_)
 ·try simp only [decide_eq_true_eq, decide_eq_false_iff_not, beq_iff_eq, bne_iff_ne, beq_eq_false_iff_ne, bne_eq_false_iff_eq, qaz, qaA, qav, qaB, qax, ne_eq, Decidable.not_not, qaQ, qaR] at c3
  refine zao ?_
  refine zae ?_
  refine zas ?_
  refine zah ?_
  refine zaa 2 rfl ?_
  refine zab ?_
  refine zae ?_
  refine qg [([], []), ([], []), ([4], []), ([], []), ([], []), ([], []), ([], []), ([], []), ([], []), ([], [])] qU (by kernel_rfl) ?_
  refine zag rfl rfl (zal (.inl rfl) (ev1 rfl)) ?_
  refine zag rfl rfl (jp rfl (ev1 rfl) (ev1 rfl) (fun _ => qaC _ (by omega))) ?_
  refine zag rfl rfl (zaq rfl kC (ev1 rfl) rfl rfl) ?_
  refine zag rfl rfl (qt rfl qu (ev1 rfl)) ?_
  refine zag rfl rfl (zal (.inl rfl) (ev1 rfl)) ?_
  refine zag rfl rfl (qh rfl (ev1 rfl) (ev1 rfl) (fun _ => qaC _ (by omega))) ?_
  refine zag rfl rfl (jp rfl (ev1 rfl) (ev1 rfl) (fun _ => qaC _ (by omega))) ?_
  refine zag rfl rfl (yF rfl (ev1 rfl) (ev1 rfl)) ?_
  refine zag rfl rfl (zal (.inr rfl) (ev1 rfl)) ?_
  refine zag rfl rfl (zal (.inr rfl) (ev1 rfl)) ?_
  refine qp ?_
  refine zae ?_
  refine zam 1 ?_
  refine qg [([], []), ([5], []), ([], []), ([3], []), ([4], []), ([], []), ([], []), ([], []), ([], []), ([], []), ([], []), ([0, 1, 6, 7], [0, 1, 6, 7]), ([], [])] qU (by kernel_rfl) ?_
  refine zag rfl rfl (zal (.inl rfl) (ev1 rfl)) ?_
  refine zag rfl rfl (qi rfl ku (ev1 rfl) rfl rfl) ?_
  refine zag rfl rfl (zal (.inl rfl) (ev1 rfl)) ?_
  refine zag rfl rfl (qi rfl tb3 (ev1 rfl) rfl rfl) ?_
  refine zag rfl rfl (zaq rfl kC (ev1 rfl) rfl rfl) ?_
  refine zag rfl rfl (zal (.inl rfl) (ev1 rfl)) ?_
  refine zag rfl rfl (zal (.inl rfl) (ev1 rfl)) ?_
  refine zag rfl rfl (zal (.inl rfl) (ev1 rfl)) ?_
  refine zag rfl rfl (yq (i := k * 256) (j := min b.length ((k + 1) * 256)) rfl qu (ev1 rfl) (ev1 rfl) (ev1 rfl) (ev1 rfl) (fun hp => by first | omega | (simp at hp; omega)) (fun hp => by first | omega | (simp at hp; omega)) (fun hp => by first | omega | (simp at hp; omega)) (fun hp => by first | omega | (simp at hp; omega)) (fun _ => rfl)) ?_
  refine zag rfl rfl (zai [] [] [] rfl (ev1 rfl) (ec (ev1 rfl) en) rfl rfl (jP (kY b k) (by have := ge b k; omega)) rfl rfl rfl rfl rfl rfl) ?_
  refine zag rfl rfl (kX (ps := [(0, .tmp 21), (1, .tmp 22), (2, .tmp 23), (3, .tmp 29)]) rfl w9 k9 (ec (ev1 rfl) (ec (ev1 rfl) (ec (ev1 rfl) (ec (ev1 rfl) en)))) rfl rfl rfl) ?_
  refine gf rfl rfl (u6 (i := 0) [0, 1, 6] [] [7] rfl (ev1 rfl) (ec (ev1 rfl) en) rfl rfl (by exact jw _ _ ⟨rfl, rfl, (by first | exact rfl | exact arx_fits rfl rfl (vwL_flat (fun _ => rfl) _) | exact km rfl rfl (ql (fun _ => rfl) _) | exact qB rfl rfl (fun _ => rfl) | exact qO rfl rfl (fun _ => rfl)), trivial⟩) (G2 ((qaY k).map (pcK sn b)) (pcK sn b k) (by simp; try omega)) rfl rfl rfl (by exact (wrc rfl (wrc rfl (wrc rfl (wrc (by first | exact rfl | exact kK (fun _ => rfl) | exact ke (ql (fun _ => rfl) _) | exact kg (fun _ => rfl) | exact ki (fun _ => rfl)) rfl))))) rfl) rfl (by simp only [upd, zad, zaf]; exact rfl) ?_
  refine zag rfl rfl (ko rfl (ev1 rfl)) ?_
  refine qp ?_
  refine qc rfl (rfl) ?_
  refine zao ?_
  refine zac ?_
  refine za rfl (qh rfl (ev1 rfl) (ev1 rfl) (fun _ => qaC _ (by omega))) ?_
  refine zaa 1 rfl ?_
  refine zab ?_
  refine ⟨k + 1, [0, 1, 2, 3, 4, 5, 7], ⟨by omega, by omega⟩, by simp only []; omega, rfl, ⟨rfl, rfl, rfl, rfl, rfl, rfl, trivial⟩, ⟨rfl, rfl, rfl, rfl, rfl, rfl, JC (by simp) (U3 sn b k).symm, trivial⟩⟩
 ·try simp only [decide_eq_true_eq, decide_eq_false_iff_not, beq_iff_eq, bne_iff_ne, beq_eq_false_iff_ne, bne_eq_false_iff_eq, qaz, qaA, qav, qaB, qax, ne_eq, Decidable.not_not, qaQ, qaR] at c3
  refine qr ?_
  obtain rfl : k = mnN b := by omega
  refine qY [0, 1, 2, 3, 4, 5, 6] (qF rfl) rfl rfl ?_ ⟨?_, ?_, ?_, ?_, ?_, ?_, ?_, trivial⟩
  rfl
  all_goals first | exact rfl | exact JC rfl rfl
theorem cut_d (sn : Int) (b : List Int) (h1 : snB sn = true) (h2 : 0 < b.length) (h3 : b.length ≤ 16384) : DFun Tryz.prog 19 [.val (.int .u64 sn), .slf 1 (b).length ((b).flatMap uc8)] [] (.tup [.slm 4 (y8 sn b).length ((y8 sn b).flatMap pcD), .val (.int .i64 0)]) [] := by
 refine qj (N := 18) 0 (by kernel_rfl) Tryz.func19 rfl rfl rfl (by simp only [fr0, qau, qaw]; exact rfl) rfl fun s0 hs0 => ?_
 refine qD rfl hs0 ?_
 refine zam 1 ?_
 refine zac ?_
 refine zaa 1 rfl ?_
 refine zaj rfl (zan 0 rfl jO rfl) ?_
 refine zab ?_
 refine qn (l0 := [_]) rfl rfl rfl rfl rfl hs0 ?_
 refine za rfl (qV rfl en (ec (ev1 rfl) en)) ?_
 refine zab ⟨_, _, _, 1, ev1 rfl, qaM hs0 (by decide), rfl, ?_⟩
 have hs1 : s0.M.length ≤ 1 := qaM hs0 (by decide)
 refine qC rfl hs0 ?_
 refine zae ?_
 refine zam 1 ?_
 refine zac ?_
 refine zaj rfl (zan 1 rfl zr48 rfl) ?_
 refine zab ?_
 refine zae ?_
 refine zae ?_
 refine zam 3 ?_
 refine zac ?_
 refine zaa 2 rfl ?_
 refine zaj rfl (zai [] [] [2, 3, 4] rfl (ev1 rfl) (ec (ev1 rfl) (ec (ev1 rfl) en)) rfl rfl (QP sn b h1 h2 h3) rfl rfl rfl rfl rfl rfl) ?_
 refine zab ?_
 refine zas ?_
 refine wV 1 53 4 rfl (by simp only [qaE, qaH, zad, zaf, qaU, qbd, qau, qaw]; exact rfl) ?_
 refine jf 5 Qg rfl rfl (by simp only [qaE, qaH, zad, zaf, List.map]; exact rfl) ?_
 refine jL ?_
 refine jL ?_
 simp only [qaE, qaH]
 refine u7 (FL := [(6, _)]) (st := .ready) (pe := none) [6, 1, 5, 2, 3, 4] [] [7] 6 rfl rfl (ev1 rfl) rfl (yl ⟨rfl, trivial⟩) rfl rfl rfl (qab sn b h2 h3) rfl rfl rfl (by exact (wrc rfl (wrc rfl (wrc rfl (wrc rfl (wrc rfl (wrc rfl (wrc (by first | exact rfl | exact kK (fun _ => rfl) | exact ke (ql (fun _ => rfl) _) | exact kg (fun _ => rfl) | exact ki (fun _ => rfl)) rfl)))))))) rfl rfl rfl (by simp) (fun e => ?_) (fun c e => ?_)
 ·simp only [upd, zad, zaf]
  refine zae ?_
  refine Ku 1 0 (GZ _) rfl rfl rfl (by simp only [zad, zaf]; exact rfl) ?_
  refine zac ?_
  refine za rfl (zaq rfl VS (ev1 rfl) rfl rfl) ?_
  refine zaa 1 rfl ?_
  refine zar rfl (qH rfl qT (ev1 rfl) (ev1 rfl) rfl) ?_
  refine zab ?_
  refine qb ?_
  refine jI (kF [0] [] rfl rfl (zP _) rfl rfl rfl rfl rfl) ?_
  refine qx (rs2 rfl (qJ rfl) (js qT rfl rfl rfl)) rfl ?_
  rfl
 ·cases e
theorem qac (sn : Int) (b : List Int) (h1 : (snB sn && decide ((0 : Int) < (b.length : Int))) = false) : DFun Tryz.prog 19 [.val (.int .u64 sn), .slf 1 (b).length ((b).flatMap uc8)] [] (.tup [.val (.slice none 0 0), .val (.int .i64 2)]) [] := by
 refine qj (N := 18) 0 (by kernel_rfl) Tryz.func19 rfl rfl rfl (by simp only [fr0, qau, qaw]; exact rfl) rfl fun s0 hs0 => ?_
 refine qD rfl hs0 ?_
 refine zam 1 ?_
 refine zac ?_
 refine zaa 1 rfl ?_
 refine zaj rfl (zan 0 rfl jO rfl) ?_
 refine zab ?_
 refine qn (l0 := [_]) rfl rfl rfl rfl rfl hs0 ?_
 refine za rfl (qV rfl en (ec (ev1 rfl) en)) ?_
 refine zab ⟨_, _, _, 1, ev1 rfl, qaM hs0 (by decide), rfl, ?_⟩
 have hs1 : s0.M.length ≤ 1 := qaM hs0 (by decide)
 refine qC rfl hs0 ?_
 refine zae ?_
 refine zam 1 ?_
 refine zac ?_
 refine zaj rfl (zan 1 rfl zr48 rfl) ?_
 refine zab ?_
 refine zae ?_
 refine zah ?_
 refine zaa 2 rfl ?_
 refine qZ rfl (qE [] [] [] rfl (ev1 rfl) (ec (ev1 rfl) (ec (ev1 rfl) en)) rfl rfl (U4 sn b h1) rfl rfl rfl rfl rfl rfl) rfl ?_
 refine jI (qL [0] [] rfl rfl rfl (uS _ _) rfl rfl rfl rfl rfl) ?_
 refine qx (rs2 rfl (qJ rfl) (js qT rfl rfl rfl)) rfl ?_
 rfl
theorem qad (sn : Int) (b : List Int) (h1 : snB sn = true) (h3 : 16384 < b.length) : DFun Tryz.prog 19 [.val (.int .u64 sn), .slf 1 (b).length ((b).flatMap uc8)] [] (.tup [.val (.slice none 0 0), .val (.int .i64 3)]) [] := by
 refine qj (N := 18) 0 (by kernel_rfl) Tryz.func19 rfl rfl rfl (by simp only [fr0, qau, qaw]; exact rfl) rfl fun s0 hs0 => ?_
 refine qD rfl hs0 ?_
 refine zam 1 ?_
 refine zac ?_
 refine zaa 1 rfl ?_
 refine zaj rfl (zan 0 rfl jO rfl) ?_
 refine zab ?_
 refine qn (l0 := [_]) rfl rfl rfl rfl rfl hs0 ?_
 refine za rfl (qV rfl en (ec (ev1 rfl) en)) ?_
 refine zab ⟨_, _, _, 1, ev1 rfl, qaM hs0 (by decide), rfl, ?_⟩
 have hs1 : s0.M.length ≤ 1 := qaM hs0 (by decide)
 refine qC rfl hs0 ?_
 refine zae ?_
 refine zam 1 ?_
 refine zac ?_
 refine zaj rfl (zan 1 rfl zr48 rfl) ?_
 refine zab ?_
 refine zae ?_
 refine zah ?_
 refine zaa 2 rfl ?_
 refine qZ rfl (qE [] [] [] rfl (ev1 rfl) (ec (ev1 rfl) (ec (ev1 rfl) en)) rfl rfl (U5 sn b h1 h3) rfl rfl rfl rfl rfl rfl) rfl ?_
 refine jI (qL [0] [] rfl rfl rfl (uS _ _) rfl rfl rfl rfl rfl) ?_
 refine qx (rs2 rfl (qJ rfl) (js qT rfl rfl rfl)) rfl ?_
 rfl
end Go.Proofs.YtofklkbfkoliiaaGreat
namespace Go.Proofs.YtofklkbfkoliiaaGreat
set_option linter.unusedVariables false
set_option linter.unusedSimpArgs false
open Go.RowKit
theorem U6 {b : List Int} {k : Nat} (hk : k < mnN b) : k * 256 < b.length ∧ (kY b k).length = min b.length ((k + 1) * 256) - k * 256 := by
 unfold mnN at hk
 unfold kY
 rw [qaT, qaZ]
 omega
theorem U7 {b : List Int} (h : b.length ≤ 16384) : mnN b ≤ 64 := by
 unfold mnN
 omega
theorem ZS {b : List Int} (h : 0 < b.length) : 0 < mnN b := by
 unfold mnN
 omega
theorem qae {sn : Int} {b : List Int} (h1 : snB sn = true) (h3 : b.length ≤ 16384) {k : Nat} (hk : k < mnN b) : pcB (pcK sn b k) = true := by
 obtain ⟨a, c⟩ := U6 hk
 have hm := U7 h3
 have hmn : mnN b = (b.length + 255) / 256 := rfl
 unfold snB at h1
 rw [qav, decide_eq_true_eq, decide_eq_true_eq] at h1
 refine pcB_iff.2 ⟨h1, ?_, ?_, ?_⟩
 ·show 1 ≤ ((mnN b : Nat) : Int) ∧ ((mnN b : Nat) : Int) ≤ 64
  omega
 ·show 0 ≤ (k : Int) ∧ (k : Int) < ((mnN b : Nat) : Int)
  omega
 ·show (kY b k).length = 256 ∨ ((k : Int) = ((mnN b : Nat) : Int) - 1 ∧ 1 ≤ (kY b k).length ∧ (kY b k).length < 256)
  omega
def jG (b : List Int) : List (List Int) := (qaY (mnN b)).map (kY b)
theorem uT (sn : Int) (b : List Int) : (y8 sn b).length = mnN b := by unfold y8; simp
theorem U8 {sn : Int} {b : List Int} {k : Nat} (hk : k < (y8 sn b).length) : (y8 sn b)[k] = pcK sn b k := by
 refine (List.getElem_eq_iff hk).2 ?_
 rw [uT] at hk
 unfold y8
 rw [qbb, List.getElem?_range hk]
 rfl
theorem qaf : ji zPi = true := by kernel_rfl
end Go.Proofs.YtofklkbfkoliiaaGreat
namespace Go.Proofs.YtofklkbfkoliiaaGreat
set_option linter.unusedVariables false
set_option linter.unusedSimpArgs false
open Go.RowKit
attribute [local irreducible] kz kZ yd gy qR k8 rdP rdN yc
theorem ju {a : List Int} (ha : isB a) (n : Nat) : isB (a.drop n) := fun z hz => ha z (List.mem_of_mem_drop hz)
end Go.Proofs.YtofklkbfkoliiaaGreat
namespace Go.Proofs.YtofklkbfkoliiaaGreat
set_option linter.unusedVariables false
set_option linter.unusedSimpArgs false
open Go.RowKit
attribute [local irreducible] tkN jK ky
theorem uf : fdO Tryz.prog 29 0 = some 0 := by kernel_rfl
theorem vM : fdO Tryz.prog 29 1 = some 3 := by kernel_rfl
theorem vN : fdO Tryz.prog 29 2 = some 4 := by kernel_rfl
theorem wp : fdO Tryz.prog 29 3 = some 5 := by kernel_rfl
structure SnM where
 w : Int
 h : Int
 ts : List TL
 f : Int
 st : Int
 v : Vec
def snL (s : SnM) : List D := [.val (.int .i64 s.w), .val (.int .i64 s.h), .slf 256 s.ts.length (s.ts.flatMap tc), .val (.int .u64 s.f), .val (.int .u64 s.st), .val (.int .u64 (s.v 0)), .val (.int .u64 (s.v 1)), .val (.int .u64 (s.v 2)), .val (.int .u64 (s.v 3)), .val (.int .u64 (s.v 4)), .val (.int .u64 (s.v 5)), .val (.int .u64 (s.v 6)), .val (.int .u64 (s.v 7)), .val (.int .u64 (s.v 8))]
def uU (s : SnM) : Bool := ((jd s.w s.h s.ts && decide (s.f ≤ s.st)) && decide (s.st ≤ 4611686018427387904)) && vB s.v
theorem snC (s : SnM) : ((((wg (jd s.w s.h s.ts) 150 != 0) || decide (s.st < s.f)) || decide (4611686018427387904 < s.st)) || (wg (vB s.v) 230 != 0)) = !(uU s) := by
 rw [ye _ (by decide), ye _ (by decide)]
 unfold uU
 cases jd s.w s.h s.ts <;> cases vB s.v <;> simp <;> (rw [Bool.eq_iff_iff]; simp; try omega)
def QQ (s t : SnM) : Bool := ((decide (s.w = t.w ∧ s.h = t.h ∧ s.ts = t.ts) && (s.f == t.f)) && (s.st == t.st)) && eqV s.v t.v
theorem zQ (s : SnM) : DFun Tryz.prog 10 [.agg (snL s)] [] (.val (.int .i64 (wg (uU s) 310))) [] := by
 refine zap (N := 25) 0 (by kernel_rfl) Tryz.func10 rfl rfl rfl (by simp only [fr0, qau, qaw]; exact rfl) rfl fun s0 hs0 => ?_
 refine zae ?_
 refine zam 1 ?_
 refine zac ?_
 refine zaj rfl (qG 0 rfl (ev1 rfl) rfl) ?_
 refine zaa 1 rfl ?_
 refine zab ?_
 refine zae ?_
 refine zah ?_
 refine za rfl (qa rfl uf (ev1 rfl)) ?_
 refine za rfl (uF rfl vT (ev1 rfl) rfl rfl rfl) ?_
 refine za rfl (zai [] [] [] rfl (ev1 rfl) (ec (ev1 rfl) en) rfl rfl (Gq s.w s.h s.ts) rfl rfl rfl rfl rfl rfl) ?_
 refine za rfl (ka rfl (ev1 rfl) (ev1 rfl)) ?_
 refine zaa 1 rfl ?_
 refine zak (qm rfl rfl rfl) rfl rfl rfl (qa rfl vM (ev1 rfl)) ?_
 refine zak (qm rfl rfl rfl) rfl rfl rfl (zaq rfl ku (ev2 rfl) rfl rfl) ?_
 refine zak (qm rfl rfl rfl) rfl rfl rfl (qa rfl vN (ev1 rfl)) ?_
 refine zak (qm rfl rfl rfl) rfl rfl rfl (zaq rfl ku (ev2 rfl) rfl rfl) ?_
 refine zak (qm rfl rfl rfl) rfl rfl rfl (kE rfl (ev2 rfl) (ev2 rfl)) ?_
 refine za rfl (kA rfl (ev1 rfl) (ev3 rfl id)) ?_
 refine zaa 1 rfl ?_
 refine zak (qm rfl rfl rfl) rfl rfl rfl (qa rfl vN (ev1 rfl)) ?_
 refine zak (qm rfl rfl rfl) rfl rfl rfl (zaq rfl ku (ev2 rfl) rfl rfl) ?_
 refine zak (qm rfl rfl rfl) rfl rfl rfl (kE rfl (ev2 rfl) (ev1 rfl)) ?_
 refine za rfl (kA rfl (ev1 rfl) (ev3 rfl id)) ?_
 refine zaa 1 rfl ?_
 refine zak (qm rfl rfl rfl) rfl rfl rfl (qa rfl wp (ev1 rfl)) ?_
 refine zak (qm rfl rfl rfl) rfl rfl rfl (xP (R := [_, _, _, _, _, _, _, _, _]) rfl gK (ev2 rfl) rfl rfl rfl) ?_
 refine zak (qm rfl rfl rfl) rfl rfl rfl (zai [] [] [] rfl (ev1 rfl) (ec (ev2 rfl) en) rfl rfl (uJ s.v) rfl rfl rfl rfl rfl rfl) ?_
 refine zak (qm rfl rfl rfl) rfl rfl rfl (ka rfl (ev2 rfl) (ev1 rfl)) ?_
 refine za rfl (kA rfl (ev1 rfl) (ev3 rfl id)) ?_
 refine zab ?_
 refine qe rfl (fun c1 => ?_) (fun c1 => ?_)
 ·refine zah ?_
  refine zaa 1 rfl ?_
  refine zab ?_
  refine qb ?_
  refine qx (rs1 rfl (qJ rfl)) rfl ?_
  have h : uU s = false := by
   rw [snC] at c1
   simpa using c1
  rw [h]
  rfl
 ·refine zao ?_
  refine zah ?_
  refine zaa 1 rfl ?_
  refine zab ?_
  refine qb ?_
  refine qx (rs1 rfl (qJ rfl)) rfl ?_
  have h : uU s = true := by
   rw [snC] at c1
   simpa using c1
  rw [h]
  rfl
theorem ZT (s t : SnM) (hn : s.ts.length ≤ 5000) : DFun Tryz.prog 12 [.agg (snL s), .agg (snL t)] [] (.val (.bool (QQ s t))) [] := by
 refine zap (N := 31) 0 (by kernel_rfl) Tryz.func12 rfl rfl rfl (by simp only [fr0, qau, qaw]; exact rfl) rfl fun s0 hs0 => ?_
 refine zae ?_
 refine zam 2 ?_
 refine zac ?_
 refine zaj rfl (qG 0 rfl (ev1 rfl) rfl) ?_
 refine zaj rfl (qG 1 rfl (ev1 rfl) rfl) ?_
 refine zaa 1 rfl ?_
 refine zab ?_
 refine zah ?_
 refine za rfl (qa rfl vM (ev1 rfl)) ?_
 refine za rfl (zaq rfl ku (ev1 rfl) rfl rfl) ?_
 refine za rfl (qa rfl vM (ev1 rfl)) ?_
 refine za rfl (zaq rfl ku (ev1 rfl) rfl rfl) ?_
 refine za rfl (qv rfl (ev1 rfl) (ev1 rfl)) ?_
 refine zaa 1 rfl ?_
 refine zak (qz rfl rfl rfl) rfl rfl rfl (qa rfl vN (ev1 rfl)) ?_
 refine zak (qz rfl rfl rfl) rfl rfl rfl (zaq rfl ku (ev2 rfl) rfl rfl) ?_
 refine zak (qz rfl rfl rfl) rfl rfl rfl (qa rfl vN (ev1 rfl)) ?_
 refine zak (qz rfl rfl rfl) rfl rfl rfl (zaq rfl ku (ev2 rfl) rfl rfl) ?_
 refine zak (qz rfl rfl rfl) rfl rfl rfl (qv rfl (ev2 rfl) (ev2 rfl)) ?_
 refine za rfl (q0 rfl (ev1 rfl) (ev3 rfl id)) ?_
 refine zaa 1 rfl ?_
 refine zak (qz rfl rfl rfl) rfl rfl rfl (qa rfl wp (ev1 rfl)) ?_
 refine zak (qz rfl rfl rfl) rfl rfl rfl (xP (R := [_, _, _, _, _, _, _, _, _]) rfl gK (ev2 rfl) rfl rfl rfl) ?_
 refine zak (qz rfl rfl rfl) rfl rfl rfl (qa rfl wp (ev1 rfl)) ?_
 refine zak (qz rfl rfl rfl) rfl rfl rfl (xP (R := [_, _, _, _, _, _, _, _, _]) rfl gK (ev2 rfl) rfl rfl rfl) ?_
 refine zak (qz rfl rfl rfl) rfl rfl rfl (vv eq27 rfl gd27 gK (ev2 rfl) (ev2 rfl)) ?_
 refine za rfl (q0 rfl (ev1 rfl) (ev3 rfl id)) ?_
 refine zaa 1 rfl ?_
 refine zak (qz rfl rfl rfl) rfl rfl rfl (qa rfl uf (ev1 rfl)) ?_
 refine zak (qz rfl rfl rfl) rfl rfl rfl (uF rfl vT (ev2 rfl) rfl rfl rfl) ?_
 refine zak (qz rfl rfl rfl) rfl rfl rfl (qa rfl uf (ev1 rfl)) ?_
 refine zak (qz rfl rfl rfl) rfl rfl rfl (uF rfl vT (ev2 rfl) rfl rfl rfl) ?_
 refine zak (qz rfl rfl rfl) rfl rfl rfl (zai [] [] [] rfl (ev1 rfl) (ec (ev2 rfl) (ec (ev2 rfl) en)) rfl rfl (Ay s.w s.h t.w t.h s.ts t.ts hn) rfl rfl rfl rfl rfl rfl) ?_
 refine za rfl (q0 rfl (ev1 rfl) (ev3 rfl id)) ?_
 refine zaa 1 rfl ?_
 refine zab ?_
 refine qb ?_
 refine qx (rs1 rfl (qJ rfl)) rfl ?_
 unfold QQ
 generalize decide (s.w = t.w ∧ s.h = t.h ∧ s.ts = t.ts) = a
 generalize (s.f == t.f) = b
 generalize (s.st == t.st) = c
 generalize eqV s.v t.v = d
 cases a <;> cases b <;> cases c <;> cases d <;> rfl
end Go.Proofs.YtofklkbfkoliiaaGreat
