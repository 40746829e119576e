/- piles with pieces more; bytes cut in pieces; pieces gathered; the document: tiles that are read; snapshots: which may be, and are the same; snapshots as bytes; snapshots that are read; snapshots, there and back; wakes; arguments that are opened; piles and pieces, opened; pieces that are the same; the document's pieces; bytes cut, in memory of their own; the document: pieces and piles that may be; the document: the same piles, what is next; copies; the document: a piece put; piles that change, in memory of their own. No condition. -/
import Derived.Test.YtofklkbfkoliiaaGreatV6
import Derived.Test.YtofklkbfkoliiaaGreatRows
set_option maxRecDepth 4000
set_option maxHeartbeats 1000000
open Nat renaming zero_add → qbs, reduceAdd → qbt, le_of_ble_eq_true → qbA, le_trans → qbK, le_refl → qbM, zero_le → qb3
open Bool renaming and_eq_true → qbu, or_eq_false_iff → qbv, not_eq_true' → qbx, not_eq_false' → qby, or_eq_true → qbE
open Option.some renaming inj → qbw
open List renaming length_append → qbz, cons_append → qbD, nil_append → qbF, replicate → qbH, getElem?_append_left → qbI, flatMap_cons → qbJ, length_replicate → qbN, getElem?_append_right → qbO, take_succ_eq_append_getElem → qbP, length_take → qbS, take_of_length_le → qbT, getD_eq_getElem?_getD → qbV, length_cons → qbW, append_assoc → qbY, length_drop → qbZ, range → qb5, getElem_mem → qb9, getElem?_map → qca, getElem_of_mem → qcc, length_nil → qce, take_length → qch, append_nil → qci
open Go.IntWalk renaming i64_in → qbB
open Int renaming not_lt → qbQ, not_le → qbR
namespace Go.Proofs.YtofklkbfkoliiaaGreat
set_option linter.unusedVariables false
set_option linter.unusedSimpArgs false
open Go.RowKit
attribute [local irreducible] tkN jC kG kU kH
theorem ye : slE Tryz.prog 48 = some (53, 4, 48) := by kernel_rfl
theorem XM (p : PiM) (hn : p.ps.length ≤ 5000) (hp : kH p = false) (l : List PcM) : DFun Tryz.prog 37 [.agg (piD p), .slm 4 l.length (l.flatMap pcD)] [] (.tup [.val (.agg #[.int .u64 0, .int .i64 0, .slice none 0 0]), .val (.int .i64 0), .val (.int .i64 312)]) [] := by
 refine qo (N := 34) 0 (by kernel_rfl) Tryz.func37 rfl rfl rfl (by simp only [fr0, qbs, qbt]; exact rfl) rfl fun s0 hs0 => ?_
 refine qz rfl hs0 ?_
 refine zao 3 ?_
 refine zac ?_
 refine zak rfl (qd 0 rfl (ev1 rfl) rfl) ?_
 refine zak rfl (zaq 1 rfl jR rfl) ?_
 refine zaa 1 rfl ?_
 refine zak rfl (zaq 2 rfl jT rfl) ?_
 refine zab ?_
 refine qr (l0 := [_]) rfl rfl rfl rfl rfl hs0 ?_
 refine za rfl (qV rfl en (ec (ev1 rfl) en)) ?_
 refine zab ⟨_, _, _, 3, ev1 rfl, qbK hs0 (by decide), rfl, ?_⟩
 have hs1 : s0.M.length ≤ 3 := qbK hs0 (by decide)
 refine qy rfl hs0 ?_
 refine zah ?_
 refine za rfl (qb rfl qS (ev1 rfl) rfl rfl) ?_
 refine ky rfl (qw [] [] [] rfl (ev1 rfl) (ec (ev1 rfl) en) rfl rfl (Vk p hn hp) rfl rfl rfl rfl rfl rfl) rfl ?_
 refine jH (qQ [2] [] rfl rfl rfl (Kq _ _) rfl rfl rfl rfl rfl) ?_
 refine qx (rs3 rfl (yv qS rfl rfl rfl) (qL rfl) (js qX rfl rfl rfl)) rfl ?_
 rfl
theorem HA (p : PiM) (hn : p.ps.length ≤ 5000) (hb : ∀ b ∈ p.ps, b.length ≤ 100000) (hp : kH p = true) (l : List PcM) (hl : l.length ≤ 100000) : DFun Tryz.prog 37 [.agg (piD p), .slm 4 l.length (l.flatMap pcD)] [] (.tup [.agg [.val (.int .u64 (qF l (p, 0)).1.sn), .val (.int .i64 (qF l (p, 0)).1.mn), .arr 0], .val (.int .i64 ((qF l (p, 0)).2 : Nat)), .val (.int .i64 0)]) [.arx 30 1 ((qF l (p, 0)).1.ps).length (((qF l (p, 0)).1.ps).flatMap fun b => [rwB b])] := by
 refine qo (N := 34) 0 (by kernel_rfl) Tryz.func37 rfl rfl rfl (by simp only [fr0, qbs, qbt]; exact rfl) rfl fun s0 hs0 => ?_
 refine qz rfl hs0 ?_
 refine zao 3 ?_
 refine zac ?_
 refine zak rfl (qd 0 rfl (ev1 rfl) rfl) ?_
 refine zak rfl (zaq 1 rfl jR rfl) ?_
 refine zaa 1 rfl ?_
 refine zak rfl (zaq 2 rfl jT rfl) ?_
 refine zab ?_
 refine qr (l0 := [_]) rfl rfl rfl rfl rfl hs0 ?_
 refine za rfl (qV rfl en (ec (ev1 rfl) en)) ?_
 refine zab ⟨_, _, _, 3, ev1 rfl, qbK hs0 (by decide), rfl, ?_⟩
 have hs1 : s0.M.length ≤ 3 := qbK hs0 (by decide)
 refine qy rfl hs0 ?_
 refine zae ?_
 refine zao 2 ?_
 refine zac ?_
 refine za rfl (qb rfl qS (ev1 rfl) rfl rfl) ?_
 refine zak rfl (zaj [] [] [3, 4] rfl (ev1 rfl) (ec (ev1 rfl) en) rfl rfl (uu p hn hb hp) rfl rfl rfl (by exact (wrc rfl (wrc (by first | exact rfl | exact kB (fun _ => rfl) | exact kg (qf (fun _ => rfl) _) | exact q9 (fun _ => rfl) | exact ki (fun _ => rfl)) rfl))) rfl rfl) ?_
 refine zaa 1 rfl ?_
 refine zab ?_
 refine zah ?_
 refine zaa 1 rfl ?_
 refine za rfl (qV rfl (ec (ev1 rfl) en) en) ?_
 refine zaa 1 rfl ?_
 refine zab ?_
 refine zae ?_
 refine zah ?_
 refine zaa 1 rfl ?_
 refine za rfl (kE rfl ye (ev1 rfl)) ?_
 refine zaa 1 rfl ?_
 refine zab ?_
 refine zat ?_
 refine qI ⟨hs1, rfl⟩ (α := Nat) (fun k => [(5, .val (.int .i64 ((qF (l.take k) (p, 0)).2 : Nat))), (18, .val (.int .i64 (k : Int)))]) [(4, _), (6, _), (7, _), (8, _), (16, _), (17, _)] (fun k => [(3, .mix 118 [.val (.int .u64 (qF (l.take k) (p, 0)).1.sn), .val (.int .i64 (qF (l.take k) (p, 0)).1.mn), .arr 4]), (4, .arx 30 1 ((qF (l.take k) (p, 0)).1.ps).length (((qF (l.take k) (p, 0)).1.ps).flatMap fun b => [rwB b]))]) [_, _, _, .hole, .hole] (fun k => k ≤ l.length) (fun k => l.length - k) 0 [0, 1, 2, 3, 4] (qb3 _) rfl ⟨rfl, rfl, rfl, rfl, rfl, rfl, trivial⟩ ⟨rfl, rfl, trivial⟩ ⟨rfl, rfl, rfl, rfl, qp rfl rfl (fun _ => rfl), trivial⟩ ?_
 intro k hx
 simp only [upd, zaf, zag, qbD, qbF]
 have hk := hx
 obtain ⟨hqk, hqn⟩ := wy hp (l.take k) 0
 rw [qbS] at hqn
 refine zah ?_
 refine za rfl (qv rfl (ev1 rfl) (ev1 rfl)) ?_
 refine zab ?_
 refine zae ?_
 refine qh rfl (fun c1 => ?_) (fun c1 => ?_)
 ·try simp only [decide_eq_true_eq, decide_eq_false_iff_not, beq_iff_eq, bne_iff_ne, beq_eq_false_iff_ne, bne_eq_false_iff_eq, qbx, qby, qbu, qbE, qbv, ne_eq, Decidable.not_not, qbQ, qbR] at c1
  refine zar ?_
  refine zae ?_
  refine zat ?_
  refine zae ?_
  refine zao 1 ?_
  refine zac ?_
  refine za rfl (gN (k) (by decide) rfl ye (ev1 rfl) (ev1 rfl) (fun _ => rfl) (by omega) (fun _ => rfl)) ?_
  refine za rfl (gO rfl kI (ev1 rfl) rfl rfl) ?_
  refine zak rfl (zaq 5 rfl wu rfl) ?_
  refine zas rfl (kw rfl kI (ev1 rfl) (ev1 rfl) rfl rfl rfl rfl) ?_
  refine zab ?_
  refine zae ?_
  by_cases h0 : (kU (qF (l.take k) (p, 0)).1 l[k]).1 = 0
  ·by_cases h2 : (qF (l.take k) (p, 0)).1.sn < l[k].sn
   ·obtain ⟨hx, hq2⟩ := J6 hqk l[k] h0 h2
    have hq1 : (qF (l.take (k + 1)) (p, 0)).1 = (kU (qF (l.take k) (p, 0)).1 l[k]).2 := by rw [k5 _ _ (by omega)]
    rw [hq2] at hq1
    have hc1 : (qF (l.take (k + 1)) (p, 0)).2 = (qF (l.take k) (p, 0)).2 := by rw [k5 _ _ (by omega)]; exact if_pos h0
    
    refine zao 1 ?_
    refine zac ?_
    refine zaa 1 rfl ?_
    refine za rfl (qb rfl kI (ev1 rfl) rfl rfl) ?_
    refine zak rfl (zaj [3, 4] [] [6] rfl (ev1 rfl) (ec (ev1 rfl) en) rfl (by exact jd _ _ ⟨rfl, (by first | exact rfl | exact arx_fits rfl rfl (vwL_flat (fun _ => rfl) _) | exact kp rfl rfl (qf (fun _ => rfl) _) | exact qp rfl rfl (fun _ => rfl) | exact kr rfl rfl (fun _ => rfl)), trivial⟩) (try_n (qF (l.take k) (p, 0)).1 l[k] hx h2) rfl rfl rfl (by exact (wrc rfl (wrc (by first | exact rfl | exact kB (fun _ => rfl) | exact kg (qf (fun _ => rfl) _) | exact q9 (fun _ => rfl) | exact ki (fun _ => rfl)) (wrc (by first | exact rfl | exact kB (fun _ => rfl) | exact kg (qf (fun _ => rfl) _) | exact q9 (fun _ => rfl) | exact ki (fun _ => rfl)) rfl)))) rfl rfl) ?_
    refine za rfl (qT rfl (ev1 rfl) (ev1 rfl)) ?_
    refine zab ?_
    refine qc rfl (rfl) ?_
    refine zar ?_
    refine zac ?_
    refine za rfl (ql rfl (ev1 rfl) (ev1 rfl) (fun _ => qbB _ (by omega))) ?_
    refine zaa 1 rfl ?_
    refine zab ?_
    refine ⟨k + 1, [0, 1, 2, 3, 6], by omega, by simp only []; omega, rfl, ⟨by rw [hc1]; rfl, rfl, rfl, rfl, rfl, rfl, rfl, rfl, trivial⟩, ⟨rfl, rfl, rfl, by rw [hq1]; rfl, by rw [hq1]; exact qp (by simp) rfl (fun _ => rfl), trivial⟩⟩
   ·obtain ⟨hx, h3, h4, ⟨h5, h6⟩, hq2⟩ := z7 hqk l[k] h0 h2
    have hq1 : (qF (l.take (k + 1)) (p, 0)).1 = (kU (qF (l.take k) (p, 0)).1 l[k]).2 := by rw [k5 _ _ (by omega)]
    rw [hq2] at hq1
    have hc1 : (qF (l.take (k + 1)) (p, 0)).2 = (qF (l.take k) (p, 0)).2 := by rw [k5 _ _ (by omega)]; exact if_pos h0
    
    refine zac ?_
    refine zaa 1 rfl ?_
    refine za rfl (qb rfl kI (ev1 rfl) rfl rfl) ?_
    refine zak rfl (zaj [3, 4] [] [] rfl (ev1 rfl) (ec (ev1 rfl) en) rfl (by exact jd _ _ ⟨rfl, (by first | exact rfl | exact arx_fits rfl rfl (vwL_flat (fun _ => rfl) _) | exact kp rfl rfl (qf (fun _ => rfl) _) | exact qp rfl rfl (fun _ => rfl) | exact kr rfl rfl (fun _ => rfl)), trivial⟩) (try_s (qF (l.take k) (p, 0)).1 l[k] hx h3 h4 h5 h6) rfl rfl rfl (by exact (wrc rfl (wrc (by first | exact rfl | exact kB (fun _ => rfl) | exact kg (qf (fun _ => rfl) _) | exact q9 (fun _ => rfl) | exact ki (fun _ => rfl)) rfl))) rfl rfl) ?_
    refine za rfl (qT rfl (ev1 rfl) (ev1 rfl)) ?_
    refine zab ?_
    refine qc rfl (rfl) ?_
    refine zar ?_
    refine zac ?_
    refine za rfl (ql rfl (ev1 rfl) (ev1 rfl) (fun _ => qbB _ (by omega))) ?_
    refine zaa 1 rfl ?_
    refine zab ?_
    refine ⟨k + 1, [0, 1, 2, 3, 4], by omega, by simp only []; omega, rfl, ⟨by rw [hc1]; rfl, rfl, rfl, rfl, rfl, rfl, rfl, rfl, trivial⟩, ⟨rfl, rfl, rfl, by rw [hq1]; rfl, by rw [hq1]; exact qp (by simp) rfl (fun _ => rfl), trivial⟩⟩
  ·have hpe := zf hqk l[k] h0
   obtain ⟨e, he⟩ : ∃ e, (kU (qF (l.take k) (p, 0)).1 l[k]).1 = e := ⟨_, rfl⟩
   rw [he] at hpe h0
   have hq1 : (qF (l.take (k + 1)) (p, 0)).1 = (kU (qF (l.take k) (p, 0)).1 l[k]).2 := by rw [k5 _ _ (by omega)]
   rw [hpe] at hq1
   have hc1 : (qF (l.take (k + 1)) (p, 0)).2 = (qF (l.take k) (p, 0)).2 + 1 := by rw [k5 _ _ (by omega)]; exact if_neg (by rw [he]; exact h0)
   refine zac ?_
   refine zaa 1 rfl ?_
   refine za rfl (qb rfl kI (ev1 rfl) rfl rfl) ?_
   refine zak rfl (zaj [3, 4] [] [] rfl (ev1 rfl) (ec (ev1 rfl) en) rfl (by exact jd _ _ ⟨rfl, (by first | exact rfl | exact arx_fits rfl rfl (vwL_flat (fun _ => rfl) _) | exact kp rfl rfl (qf (fun _ => rfl) _) | exact qp rfl rfl (fun _ => rfl) | exact kr rfl rfl (fun _ => rfl)), trivial⟩) (try_e (qF (l.take k) (p, 0)).1 l[k] hqk e h0 hpe) rfl rfl rfl (by exact (wrc rfl (wrc (by first | exact rfl | exact kB (fun _ => rfl) | exact kg (qf (fun _ => rfl) _) | exact q9 (fun _ => rfl) | exact ki (fun _ => rfl)) rfl))) rfl rfl) ?_
   refine za rfl (qT rfl (ev1 rfl) (ev1 rfl)) ?_
   refine zab ?_
   refine qJ rfl (by simpa using h0) ?_
   refine zac ?_
   refine zaa 1 rfl ?_
   refine za rfl (ql rfl (ev1 rfl) (ev1 rfl) (fun _ => qbB _ (by omega))) ?_
   refine zaa 1 rfl ?_
   refine zab ?_
   refine zac ?_
   refine za rfl (ql rfl (ev1 rfl) (ev1 rfl) (fun _ => qbB _ (by omega))) ?_
   refine zaa 1 rfl ?_
   refine zab ?_
   refine ⟨k + 1, [0, 1, 2, 3, 4], by omega, by simp only []; omega, rfl, ⟨by rw [hc1]; rfl, rfl, rfl, rfl, rfl, rfl, rfl, rfl, trivial⟩, ⟨rfl, rfl, rfl, by rw [hq1]; rfl, by rw [hq1]; exact qp (by simp) rfl (fun _ => rfl), trivial⟩⟩
 ·try simp only [decide_eq_true_eq, decide_eq_false_iff_not, beq_iff_eq, bne_iff_ne, beq_eq_false_iff_ne, bne_eq_false_iff_eq, qbx, qby, qbu, qbE, qbv, ne_eq, Decidable.not_not, qbQ, qbR] at c1
  refine qD ?_
  refine zae ?_
  obtain rfl : k = l.length := by omega
  rw [qch]
  refine zac ?_
  refine zaa 1 rfl ?_
  refine za rfl (qt rfl (ev1 rfl) (fun s v h => by cases h; exact ⟨_, rfl⟩)) ?_
  refine za rfl (zam rfl ka (ev1 rfl)) ?_
  refine za rfl (qb rfl qS (ev1 rfl) rfl rfl) ?_
  refine zaa 1 rfl ?_
  refine zas rfl (kw rfl qS (ev1 rfl) (ev1 rfl) rfl rfl rfl rfl) ?_
  refine zaa 1 rfl ?_
  refine zas rfl (qK rfl qX (ev1 rfl) (ev1 rfl) rfl) ?_
  refine zab ?_
  refine qa ?_
  refine jH (kL [2] [] rfl rfl (xE _) rfl rfl rfl rfl rfl) ?_
  refine ko [4] (rs3 rfl (y0 qS rfl rfl rfl) (qL rfl) (js qX rfl rfl rfl)) rfl rfl ?_ ⟨?_, trivial⟩
  rfl
  exact qp rfl rfl (fun _ => rfl)
theorem HB (p : PiM) (hp : kH p = true) (l : List PcM) (hl : l.length ≤ 100000) : DFun Tryz.prog 37 [.agg (piD p), .slm 4 l.length (l.flatMap pcD)] [] (.tup [.agg (piD (qF l (p, 0)).1), .val (.int .i64 ((qF l (p, 0)).2 : Nat)), .val (.int .i64 0)]) [] := yc (HA p (by have := (gV hp).1; omega) (fun b hb => by have := (gV hp).2 b hb; omega) hp l hl) (Uz wO)
def yq (p : PiM) : Int × Bool := if noB p = true then (0, true) else if jD p.ps 0 < 0 then (0, false) else if kH p = true then (jD p.ps 0, true) else (0, false)
def gi (p : PiM) : Bool := !((noB p || decide (0 ≤ jD p.ps 0)) || !(kH p))
theorem z8 (p : PiM) (hn : p.ps.length ≤ 5000) : DFun Tryz.prog 33 [.agg (piD p)] [] (.tup [.val (.int .i64 (yq p).1), .val (.bool (yq p).2)]) [] := by
 refine zap (N := 17) 0 (by kernel_rfl) Tryz.func33 rfl rfl rfl (by simp only [fr0, qbs, qbt]; exact rfl) rfl fun s0 hs0 => ?_
 refine zae ?_
 refine zao 1 ?_
 refine zac ?_
 refine zak rfl (qd 0 rfl (ev1 rfl) rfl) ?_
 refine zaa 2 rfl ?_
 refine zab ?_
 refine zae ?_
 refine zah ?_
 refine za rfl (qb rfl qS (ev1 rfl) rfl rfl) ?_
 refine za rfl (zaj [] [] [] rfl (ev1 rfl) (ec (ev1 rfl) en) rfl rfl (wM _) rfl rfl rfl rfl rfl rfl) ?_
 refine zab ?_
 refine qh rfl (fun c1 => ?_) (fun c1 => ?_)
 ·refine zah ?_
  refine zaa 2 rfl ?_
  refine zab ?_
  refine qa ?_
  refine qx (rs2 rfl (qL rfl) (qL rfl)) rfl ?_
  have h : yq p = (0, true) := by unfold yq; rw [if_pos c1]
  rw [h]
 ·refine zar ?_
  refine zah ?_
  refine za rfl (qb rfl qS (ev1 rfl) rfl rfl) ?_
  refine za rfl (zaj [] [] [] rfl (ev1 rfl) (ec (ev1 rfl) en) rfl rfl (xq _) rfl rfl rfl rfl rfl rfl) ?_
  refine zaa 1 rfl ?_
  refine zab ?_
  refine zae ?_
  refine zah ?_
  refine zaa 1 rfl ?_
  refine za rfl (qv rfl (ev1 rfl) (ev1 rfl)) ?_
  refine zaa 1 rfl ?_
  refine zai (qe rfl rfl rfl) rfl rfl rfl (qb rfl qS (ev1 rfl) rfl rfl) ?_
  refine zai (qe rfl rfl rfl) rfl rfl rfl (zaj [] [] [] rfl (ev1 rfl) (ec (ev2 rfl) en) rfl rfl (ww p hn) rfl rfl rfl rfl rfl rfl) ?_
  refine zai (qe rfl rfl rfl) rfl rfl rfl (qT rfl (ev2 rfl) (ev1 rfl)) ?_
  refine za rfl (kx rfl (ev1 rfl) (ev3 rfl id)) ?_
  refine zab ?_
  refine qh rfl (fun c2 => ?_) (fun c2 => ?_)
  ·refine zah ?_
   refine zaa 2 rfl ?_
   refine zab ?_
   refine qa ?_
   refine qx (rs2 rfl (qL rfl) (qL rfl)) rfl ?_
   have h : yq p = (0, false) := by
    unfold yq
    rw [if_neg (by rw [c1]; decide)]
    rw [vm _ (by decide), qbE, decide_eq_true_eq] at c2
    rcases c2 with c2 | c2
    ·rw [if_pos c2]
    ·rw [if_neg (show ¬ kH p = true by simpa using c2)]; split <;> rfl
   rw [h]
  ·refine zar ?_
   refine zah ?_
   refine zaa 3 rfl ?_
   refine zab ?_
   refine qa ?_
   refine qx (rs2 rfl (qL rfl) (qL rfl)) rfl ?_
   have h : yq p = (jD p.ps 0, true) := by
    unfold yq
    rw [vm _ (by decide), qbv, decide_eq_false_iff_not] at c2
    rw [if_neg (by rw [c1]; decide), if_neg c2.1, if_pos (by simpa using c2.2)]
   rw [h]
theorem zg (p : PiM) (hn : p.ps.length ≤ 5000) (hw : gi p = false) : DFun Tryz.prog 35 [.agg (piD p)] [] (.tup [.val (.slice none 0 0), .val (.bool false)]) [] := by
 refine zap (N := 19) 0 (by kernel_rfl) Tryz.func35 rfl rfl rfl (by simp only [fr0, qbs, qbt]; exact rfl) rfl fun s0 hs0 => ?_
 refine zae ?_
 refine zao 1 ?_
 refine zac ?_
 refine zak rfl (qd 0 rfl (ev1 rfl) rfl) ?_
 refine zaa 2 rfl ?_
 refine zab ?_
 refine zae ?_
 refine zah ?_
 refine za rfl (qb rfl qS (ev1 rfl) rfl rfl) ?_
 refine za rfl (zaj [] [] [] rfl (ev1 rfl) (ec (ev1 rfl) en) rfl rfl (wM _) rfl rfl rfl rfl rfl rfl) ?_
 refine zaa 1 rfl ?_
 refine zai (qe rfl rfl rfl) rfl rfl rfl (qb rfl qS (ev1 rfl) rfl rfl) ?_
 refine zai (qe rfl rfl rfl) rfl rfl rfl (zaj [] [] [] rfl (ev1 rfl) (ec (ev2 rfl) en) rfl rfl (xq _) rfl rfl rfl rfl rfl rfl) ?_
 refine zai (qe rfl rfl rfl) rfl rfl rfl (jh rfl (ev2 rfl) (ev1 rfl)) ?_
 refine za rfl (kx rfl (ev1 rfl) (ev3 rfl id)) ?_
 refine zaa 1 rfl ?_
 refine zai (qe rfl rfl rfl) rfl rfl rfl (qb rfl qS (ev1 rfl) rfl rfl) ?_
 refine zai (qe rfl rfl rfl) rfl rfl rfl (zaj [] [] [] rfl (ev1 rfl) (ec (ev2 rfl) en) rfl rfl (ww p hn) rfl rfl rfl rfl rfl rfl) ?_
 refine zai (qe rfl rfl rfl) rfl rfl rfl (qT rfl (ev2 rfl) (ev1 rfl)) ?_
 refine za rfl (kx rfl (ev1 rfl) (ev3 rfl id)) ?_
 refine zab ?_
 refine qJ rfl (by rw [vm _ (by decide)]; unfold gi at hw; rw [qby] at hw; exact hw) ?_
 refine zah ?_
 refine zaa 2 rfl ?_
 refine zab ?_
 refine qa ?_
 refine qx (rs2 rfl (qL rfl) (qL rfl)) rfl ?_
 rfl
theorem J7 (p : PiM) (hn : p.ps.length ≤ 5000) (hw : gi p = true) (hf : p.ps.flatten.length ≤ 100000000) : DFun Tryz.prog 35 [.agg (piD p)] [] (.tup [.slf 1 (p.ps.flatten).length ((p.ps.flatten).flatMap uc8), .val (.bool true)]) [] := by
 refine zap (N := 19) 0 (by kernel_rfl) Tryz.func35 rfl rfl rfl (by simp only [fr0, qbs, qbt]; exact rfl) rfl fun s0 hs0 => ?_
 refine zae ?_
 refine zao 1 ?_
 refine zac ?_
 refine zak rfl (qd 0 rfl (ev1 rfl) rfl) ?_
 refine zaa 2 rfl ?_
 refine zab ?_
 refine zae ?_
 refine zah ?_
 refine za rfl (qb rfl qS (ev1 rfl) rfl rfl) ?_
 refine za rfl (zaj [] [] [] rfl (ev1 rfl) (ec (ev1 rfl) en) rfl rfl (wM _) rfl rfl rfl rfl rfl rfl) ?_
 refine zaa 1 rfl ?_
 refine zai (qe rfl rfl rfl) rfl rfl rfl (qb rfl qS (ev1 rfl) rfl rfl) ?_
 refine zai (qe rfl rfl rfl) rfl rfl rfl (zaj [] [] [] rfl (ev1 rfl) (ec (ev2 rfl) en) rfl rfl (xq _) rfl rfl rfl rfl rfl rfl) ?_
 refine zai (qe rfl rfl rfl) rfl rfl rfl (jh rfl (ev2 rfl) (ev1 rfl)) ?_
 refine za rfl (kx rfl (ev1 rfl) (ev3 rfl id)) ?_
 refine zaa 1 rfl ?_
 refine zai (qe rfl rfl rfl) rfl rfl rfl (qb rfl qS (ev1 rfl) rfl rfl) ?_
 refine zai (qe rfl rfl rfl) rfl rfl rfl (zaj [] [] [] rfl (ev1 rfl) (ec (ev2 rfl) en) rfl rfl (ww p hn) rfl rfl rfl rfl rfl rfl) ?_
 refine zai (qe rfl rfl rfl) rfl rfl rfl (qT rfl (ev2 rfl) (ev1 rfl)) ?_
 refine za rfl (kx rfl (ev1 rfl) (ev3 rfl id)) ?_
 refine zab ?_
 refine qc rfl (by rw [vm _ (by decide)]; unfold gi at hw; rw [qbx] at hw; exact hw) ?_
 refine zar ?_
 refine zah ?_
 refine za rfl (zam rfl kt (ev1 rfl)) ?_
 refine za rfl (zan rfl jp (ev1 rfl) rfl rfl) ?_
 refine za rfl (zaj [] [] [] rfl (ev1 rfl) (ec (ev1 rfl) en) rfl rfl (yS p.ps _ _ rfl rfl hf) rfl rfl rfl rfl rfl rfl) ?_
 refine zaa 2 rfl ?_
 refine zab ?_
 refine qa ?_
 refine qx (rs2 rfl (qL rfl) (qL rfl)) rfl ?_
 rfl
end Go.Proofs.YtofklkbfkoliiaaGreat
namespace Go.Proofs.YtofklkbfkoliiaaGreat
set_option linter.unusedVariables false
set_option linter.unusedSimpArgs false
open Go.RowKit
attribute [local irreducible] tkN jC kG
theorem tb48 : tyB Tryz.prog 48 = some (false, 1) := by kernel_rfl
theorem zr48 : zrC Tryz.prog 48 = some [.slice none 0 0] := by kernel_rfl
def mnN (b : List Int) : Nat := (b.length + 255) / 256
def Jc (b : List Int) (k : Nat) : List Int := (b.drop (k * 256)).take (min b.length ((k + 1) * 256) - k * 256)
theorem Jd (b : List Int) (k : Nat) : (Jc b k).length ≤ 256 := by
 unfold Jc
 rw [qbS]
 omega
def pcK (sn : Int) (b : List Int) (k : Nat) : PcM := ⟨sn, k, mnN b, Jc b k⟩
def Yu (sn : Int) (b : List Int) : List PcM := (qb5 (mnN b)).map (pcK sn b)
theorem XN (sn : Int) (b : List Int) (k : Nat) : (qb5 (k + 1)).map (pcK sn b) = (qb5 k).map (pcK sn b) ++ [pcK sn b k] := by
 rw [List.range_succ, List.map_append]; rfl
theorem Vo (l : List PcM) : D.nlL (l.flatMap pcD) = true := by
 induction l with
 | nil => rfl
 | cons b r ih => rw [qbJ]; exact ih
theorem Vp {σ : List Nat} {V : Nat → Bool} {M : List Blk} {T : TypeId} {n n' : Nat} {l l' : List PcM} (hn : n = n') (hl : l = l') : (vwL σ V M (l.flatMap pcD)).map (Blk.arx T 4 n) = some (Blk.arx T 4 n' (l'.flatMap pcD)) := kr hn hl (fun _ => rfl)
theorem pcs_d (sn : Int) (b : List Int) (h1 : snB sn = true) (h2 : 0 < b.length) (h3 : b.length ≤ 16384) : DFun Tryz.prog 64 [.val (.int .u64 sn), .slf 1 (b).length ((b).flatMap uc8)] [] (.fn (.func 101) [] [.loc 0 0, .loc 1 0, .loc 2 0]) [.flat 3 [.int .i64 (mnN b : Nat)], .mix 30 [.slf 1 (b).length ((b).flatMap uc8)], .flat 25 [.int .u64 sn]] := by
 refine zap (N := 28) 0 (by kernel_rfl) Tryz.func64 rfl rfl rfl (by simp only [fr0, qbs, qbt]; exact rfl) rfl fun s0 hs0 => ?_
 refine jY (t := 1) rfl fun hl1 hL1 => ?_
 refine zae ?_
 refine zao 2 ?_
 refine zac ?_
 refine zak rfl (uH 0 rfl (ev1 rfl) rfl) ?_
 refine zak rfl (gL 1 rfl (ev1 rfl) (fun s v h => by cases h <;> rfl) rfl) ?_
 refine zaa 1 rfl ?_
 refine zab ?_
 refine zah ?_
 refine za rfl (qB rfl qZ (ev1 rfl) rfl rfl) ?_
 refine za rfl (jh rfl (ev1 rfl) (ev1 rfl)) ?_
 refine zaa 1 rfl ?_
 refine zai (qn rfl rfl rfl) rfl rfl rfl (qB rfl qZ (ev1 rfl) rfl rfl) ?_
 refine zai (qn rfl rfl rfl) rfl rfl rfl (y3 rfl (ev2 rfl) (ev1 rfl)) ?_
 refine za rfl (qC rfl (ev1 rfl) (ev3 rfl id)) ?_
 refine zaa 1 rfl ?_
 refine zai (qn rfl rfl rfl) rfl rfl rfl (zan rfl kD (ev1 rfl) rfl rfl) ?_
 refine zai (qn rfl rfl rfl) rfl rfl rfl (qE rfl qG (ev2 rfl)) ?_
 refine zai (qn rfl rfl rfl) rfl rfl rfl (kA rfl (ev2 rfl) (ev1 rfl)) ?_
 refine za rfl (qC rfl (ev1 rfl) (ev3 rfl id)) ?_
 refine za rfl (zaj [] [] [] rfl (ev1 rfl) (ec (ev1 rfl) (ec (ev1 rfl) en)) rfl rfl (qR _ _ (by unfold snB at h1; rw [h1, decide_eq_true (by omega)]; rfl)) rfl rfl rfl rfl rfl rfl) ?_
 refine zab ?_
 refine zah ?_
 refine za rfl (zan rfl kD (ev1 rfl) rfl rfl) ?_
 refine za rfl (qE rfl qG (ev1 rfl)) ?_
 refine za rfl (y3 rfl (ev1 rfl) (ev1 rfl)) ?_
 refine za rfl (zaj [] [] [] rfl (ev1 rfl) (ec (ev1 rfl) (ec (ev1 rfl) en)) rfl rfl (qR _ _ (decide_eq_true (by omega))) rfl rfl rfl rfl rfl rfl) ?_
 refine zab ?_
 refine zae ?_
 refine zao 1 ?_
 refine zac ?_
 refine za rfl (zan rfl kD (ev1 rfl) rfl rfl) ?_
 refine za rfl (qE rfl qG (ev1 rfl)) ?_
 refine za rfl (ql rfl (ev1 rfl) (ev1 rfl) (fun _ => qbB _ (by omega))) ?_
 refine za rfl (jV rfl (ev1 rfl) (ev1 rfl) (fun _ => qbB _ (by omega))) ?_
 refine za rfl ((Zk rfl (ev1 rfl) (ev1 rfl) (fun _ => ⟨by omega, by omega, qbB _ (by omega)⟩)).cast (d' := .val (.int .i64 (mnN b : Nat))) (by unfold mnN; simp; omega)) ?_
 refine zak rfl (zaq 2 rfl zr3 rfl) ?_
 refine zas rfl (qK rfl tb3 (ev1 rfl) (ev1 rfl) rfl) ?_
 refine zab ?_
 refine zah ?_
 refine za rfl (qV rfl en (ec (ev1 rfl) (ec (ev1 rfl) (ec (ev1 rfl) en)))) ?_
 refine zaa 1 rfl ?_
 refine zab ?_
 refine qa ?_
 refine ko [2, 1, 0] (rs1 rfl (qL rfl)) rfl rfl ?_ ⟨rfl, rfl, rfl, trivial⟩
 rfl
noncomputable def cutA : Code := rfA (pth [1, 1, 1, 0, 1, 0] (wj Tryz.f19))
noncomputable def cutB : Code := rfB (pth [1, 1, 1, 0, 1, 0] (wj Tryz.f19))
theorem Yv (R : List PcM) (x : PcM) (hR : R.length ≤ 1000) : DRound Tryz.prog 0 [.agg (pcD x)] [.lp none 18 [(6, .loc 1 0)] #[12] cutA cutB .ready none, .mix 48 [.arr 2], .arx 53 4 (R).length ((R).flatMap pcD)] true [.lp none 18 [(6, .loc 1 0)] #[12] cutA cutB .ready none, .mix 48 [.arr 3], .gone, .arx 53 4 ((R ++ [x])).length (((R ++ [x])).flatMap pcD)] := by
 refine yJ 3 rfl rfl (by simp) rfl rfl fun s0 hs0 => ?_
 refine zao 1 ?_
 refine zac ?_
 refine zak rfl (zaq 3 rfl wu rfl) ?_
 refine zas rfl (kw rfl kI (ev1 rfl) (ev1 rfl) rfl rfl rfl rfl) ?_
 refine zab ?_
 refine ⟨rfl, ?_⟩
 simp only [zaf, zag]
 refine zat ?_
 refine zao 1 ?_
 refine zac ?_
 refine za rfl (zan rfl tb48 (ev1 rfl) rfl rfl) ?_
 refine za rfl (qb rfl kI (ev1 rfl) rfl rfl) ?_
 refine za rfl (JI (ps := [(0, .tmp 14)]) rfl ye wu rfl (ec (ev1 rfl) en) rfl rfl rfl (by rfl) rfl (by decide) (by decide)) ?_
 refine zak rfl (JJ (j := 4) rfl ye wu rfl (ev1 rfl) (ev1 rfl) rfl rfl (rfl) (fun _ => ⟨by omega, by omega⟩)) ?_
 refine zas rfl (kJ rfl tb48 (ev1 rfl) (ev1 rfl) (fun s v h => by cases h <;> exact ⟨rfl, rfl⟩) rfl (by first | decide | exact qbA rfl | simp)) ?_
 refine zab ?_
 refine ⟨rfl, rfl, [0, 1, 2, 4], rfl, ⟨rfl, rfl, rfl, kp (by simp) (by rw [List.flatMap_append]; rfl) (Vo _), trivial⟩⟩
theorem qba (sn : Int) (b : List Int) (h2 : 0 < b.length) (h3 : b.length ≤ 16384) : DFun Tryz.prog 101 [.yld 0, .loc 3 0, .loc 4 0, .loc 5 0] [.lp none 18 [(6, .loc 1 0)] #[12] cutA cutB .ready none, .mix 48 [.arr 2], .arx 53 4 (([] : List PcM)).length ((([] : List PcM)).flatMap pcD), .flat 3 [.int .i64 (mnN b : Nat)], .mix 30 [.slf 1 (b).length ((b).flatMap uc8)], .flat 25 [.int .u64 sn]] (.tup []) [.lp none 18 [(6, .loc 1 0)] #[12] cutA cutB .ready none, .mix 48 [.arr 6], .gone, .flat 3 [.int .i64 (mnN b : Nat)], .mix 30 [.slf 1 (b).length ((b).flatMap uc8)], .flat 25 [.int .u64 sn], .arx 53 4 ((Yu sn b)).length (((Yu sn b)).flatMap pcD)] := by
 have hmn : mnN b = (b.length + 255) / 256 := rfl
 refine zap (N := 34) 6 (by kernel_rfl) Tryz.func101 rfl rfl rfl (by simp only [fr0, qbs, qbt]; exact rfl) rfl fun s0 hs0 => ?_
 refine zah ?_
 refine za rfl (qB rfl tb3 (ev1 rfl) rfl rfl) ?_
 refine zaa 1 rfl ?_
 refine zab ?_
 refine zat ?_
 refine yK (kY ?_)
 refine zah ?_
 refine za rfl (qv rfl (ev1 rfl) (ev1 rfl)) ?_
 refine zab ?_
 refine zae ?_
 refine qJ rfl (by simp; omega) ?_
 refine zar ?_
 refine zae ?_
 refine zat ?_
 refine zah ?_
 refine zaa 2 rfl ?_
 refine zab ?_
 refine zae ?_
 refine qg [([], []), ([], []), ([4], []), ([], []), ([], []), ([], []), ([], []), ([], []), ([], []), ([], [])] qP (by kernel_rfl) ?_
 refine zad rfl rfl (zal (.inl rfl) (ev1 rfl)) ?_
 refine zad rfl rfl (yz rfl (ev1 rfl) (ev1 rfl) (fun _ => qbB _ (by omega))) ?_
 refine zad rfl rfl (zan rfl kD (ev1 rfl) rfl rfl) ?_
 refine zad rfl rfl (qE rfl qG (ev1 rfl)) ?_
 refine zad rfl rfl (zal (.inl rfl) (ev1 rfl)) ?_
 refine zad rfl rfl (ql rfl (ev1 rfl) (ev1 rfl) (fun _ => qbB _ (by omega))) ?_
 refine zad rfl rfl (yz rfl (ev1 rfl) (ev1 rfl) (fun _ => qbB _ (by omega))) ?_
 refine zad rfl rfl (we rfl (ev1 rfl) (ev1 rfl)) ?_
 refine zad rfl rfl (zal (.inr rfl) (ev1 rfl)) ?_
 refine zad rfl rfl (zal (.inr rfl) (ev1 rfl)) ?_
 refine qk ?_
 refine zae ?_
 refine zao 1 ?_
 refine qg [([], []), ([5], []), ([], []), ([3], []), ([4], []), ([], []), ([], []), ([], []), ([], []), ([], []), ([], []), ([0, 1, 2, 6], [0, 1, 2, 6]), ([], [])] qP (by kernel_rfl) ?_
 refine zad rfl rfl (zal (.inl rfl) (ev1 rfl)) ?_
 refine zad rfl rfl (qB rfl qZ (ev1 rfl) rfl rfl) ?_
 refine zad rfl rfl (zal (.inl rfl) (ev1 rfl)) ?_
 refine zad rfl rfl (qB rfl tb3 (ev1 rfl) rfl rfl) ?_
 refine zad rfl rfl (zan rfl kD (ev1 rfl) rfl rfl) ?_
 refine zad rfl rfl (zal (.inl rfl) (ev1 rfl)) ?_
 refine zad rfl rfl (zal (.inl rfl) (ev1 rfl)) ?_
 refine zad rfl rfl (zal (.inl rfl) (ev1 rfl)) ?_
 refine zad rfl rfl (zb (i := 0 * 256) (j := min b.length ((0 + 1) * 256)) rfl qG (ev1 rfl) (ev1 rfl) (ev1 rfl) (ev1 rfl) (fun hp => by first | omega | (simp at hp; omega)) (fun hp => by first | omega | (simp at hp; omega)) (fun hp => by first | omega | (simp at hp; omega)) (fun hp => by first | omega | (simp at hp; omega)) (fun _ => rfl)) ?_
 refine zad rfl rfl (zaj [] [] [] rfl (ev1 rfl) (ec (ev1 rfl) en) rfl rfl (gS (Jc b 0) (by have := Jd b 0; omega)) rfl rfl rfl rfl rfl rfl) ?_
 refine zad rfl rfl (jZ (ps := [(0, .tmp 21), (1, .tmp 22), (2, .tmp 23), (3, .tmp 29)]) rfl fl53 wu (ec (ev1 rfl) (ec (ev1 rfl) (ec (ev1 rfl) (ec (ev1 rfl) en)))) rfl rfl rfl) ?_
 refine gE rfl rfl (GD (i := 0) [0, 1, 2] [] [6] rfl (ev1 rfl) (ec (ev1 rfl) en) rfl rfl (by exact jd _ _ ⟨rfl, rfl, (by first | exact rfl | exact arx_fits rfl rfl (vwL_flat (fun _ => rfl) _) | exact kp rfl rfl (qf (fun _ => rfl) _) | exact qp rfl rfl (fun _ => rfl) | exact kr rfl rfl (fun _ => rfl)), trivial⟩) (Yv [] (pcK sn b 0) (by simp; try omega)) rfl rfl rfl (by exact (wrc rfl (wrc rfl (wrc rfl (wrc (by first | exact rfl | exact kB (fun _ => rfl) | exact kg (qf (fun _ => rfl) _) | exact q9 (fun _ => rfl) | exact ki (fun _ => rfl)) rfl))))) rfl) rfl (by simp only [upd, zaf, zag]; exact rfl) ?_
 refine zad rfl rfl (kv rfl (ev1 rfl)) ?_
 refine qk ?_
 refine qc rfl (rfl) ?_
 refine zar ?_
 refine zac ?_
 refine za rfl (ql rfl (ev1 rfl) (ev1 rfl) (fun _ => qbB _ (by omega))) ?_
 refine zaa 1 rfl ?_
 refine zab ?_
 refine AZ ⟨hs0, rfl⟩ (α := Nat) (fun k => [(9, .val (.int .i64 (k : Int)))]) [(0, _), (1, _), (2, _), (3, _), (8, _)] (fun k => [(6, .arx 53 4 (((qb5 k).map (pcK sn b))).length ((((qb5 k).map (pcK sn b))).flatMap pcD))]) [_, _, _, _, _, _, .hole] (fun k => 1 ≤ k ∧ k ≤ mnN b) (fun k => mnN b - k) 1 [0, 1, 2, 3, 4, 5, 6] (⟨qbM _, by omega⟩) rfl ⟨rfl, rfl, rfl, rfl, rfl, trivial⟩ ⟨rfl, trivial⟩ ⟨rfl, rfl, rfl, rfl, rfl, rfl, by rfl, trivial⟩ ?_
 intro k hx
 simp only [upd, zaf, zag, qbD, qbF]
 obtain ⟨hk1, hk⟩ := hx
 refine zah ?_
 refine za rfl (qv rfl (ev1 rfl) (ev1 rfl)) ?_
 refine zab ?_
 refine zae ?_
 refine qh rfl (fun c3 => ?_) (fun c3 => ?_)
 ·try simp only [decide_eq_true_eq, decide_eq_false_iff_not, beq_iff_eq, bne_iff_ne, beq_eq_false_iff_ne, bne_eq_false_iff_eq, qbx, qby, qbu, qbE, qbv, ne_eq, Decidable.not_not, qbQ, qbR] at c3
  refine zar ?_
  refine zae ?_
  refine zat ?_
  refine zah ?_
  refine zaa 2 rfl ?_
  refine zab ?_
  refine zae ?_
  refine qg [([], []), ([], []), ([4], []), ([], []), ([], []), ([], []), ([], []), ([], []), ([], []), ([], [])] qP (by kernel_rfl) ?_
  refine zad rfl rfl (zal (.inl rfl) (ev1 rfl)) ?_
  refine zad rfl rfl (yz rfl (ev1 rfl) (ev1 rfl) (fun _ => qbB _ (by omega))) ?_
  refine zad rfl rfl (zan rfl kD (ev1 rfl) rfl rfl) ?_
  refine zad rfl rfl (qE rfl qG (ev1 rfl)) ?_
  refine zad rfl rfl (zal (.inl rfl) (ev1 rfl)) ?_
  refine zad rfl rfl (ql rfl (ev1 rfl) (ev1 rfl) (fun _ => qbB _ (by omega))) ?_
  refine zad rfl rfl (yz rfl (ev1 rfl) (ev1 rfl) (fun _ => qbB _ (by omega))) ?_
  refine zad rfl rfl (we rfl (ev1 rfl) (ev1 rfl)) ?_
  refine zad rfl rfl (zal (.inr rfl) (ev1 rfl)) ?_
  refine zad rfl rfl (zal (.inr rfl) (ev1 rfl)) ?_
  refine qk ?_
  refine zae ?_
  refine zao 1 ?_
  refine qg [([], []), ([5], []), ([], []), ([3], []), ([4], []), ([], []), ([], []), ([], []), ([], []), ([], []), ([], []), ([0, 1, 6, 7], [0, 1, 6, 7]), ([], [])] qP (by kernel_rfl) ?_
  refine zad rfl rfl (zal (.inl rfl) (ev1 rfl)) ?_
  refine zad rfl rfl (qB rfl qZ (ev1 rfl) rfl rfl) ?_
  refine zad rfl rfl (zal (.inl rfl) (ev1 rfl)) ?_
  refine zad rfl rfl (qB rfl tb3 (ev1 rfl) rfl rfl) ?_
  refine zad rfl rfl (zan rfl kD (ev1 rfl) rfl rfl) ?_
  refine zad rfl rfl (zal (.inl rfl) (ev1 rfl)) ?_
  refine zad rfl rfl (zal (.inl rfl) (ev1 rfl)) ?_
  refine zad rfl rfl (zal (.inl rfl) (ev1 rfl)) ?_
  refine zad rfl rfl (zb (i := k * 256) (j := min b.length ((k + 1) * 256)) rfl qG (ev1 rfl) (ev1 rfl) (ev1 rfl) (ev1 rfl) (fun hp => by first | omega | (simp at hp; omega)) (fun hp => by first | omega | (simp at hp; omega)) (fun hp => by first | omega | (simp at hp; omega)) (fun hp => by first | omega | (simp at hp; omega)) (fun _ => rfl)) ?_
  refine zad rfl rfl (zaj [] [] [] rfl (ev1 rfl) (ec (ev1 rfl) en) rfl rfl (gS (Jc b k) (by have := Jd b k; omega)) rfl rfl rfl rfl rfl rfl) ?_
  refine zad rfl rfl (jZ (ps := [(0, .tmp 21), (1, .tmp 22), (2, .tmp 23), (3, .tmp 29)]) rfl fl53 wu (ec (ev1 rfl) (ec (ev1 rfl) (ec (ev1 rfl) (ec (ev1 rfl) en)))) rfl rfl rfl) ?_
  refine gE rfl rfl (GD (i := 0) [0, 1, 6] [] [7] rfl (ev1 rfl) (ec (ev1 rfl) en) rfl rfl (by exact jd _ _ ⟨rfl, rfl, (by first | exact rfl | exact arx_fits rfl rfl (vwL_flat (fun _ => rfl) _) | exact kp rfl rfl (qf (fun _ => rfl) _) | exact qp rfl rfl (fun _ => rfl) | exact kr rfl rfl (fun _ => rfl)), trivial⟩) (Yv ((qb5 k).map (pcK sn b)) (pcK sn b k) (by simp; try omega)) rfl rfl rfl (by exact (wrc rfl (wrc rfl (wrc rfl (wrc (by first | exact rfl | exact kB (fun _ => rfl) | exact kg (qf (fun _ => rfl) _) | exact q9 (fun _ => rfl) | exact ki (fun _ => rfl)) rfl))))) rfl) rfl (by simp only [upd, zaf, zag]; exact rfl) ?_
  refine zad rfl rfl (kv rfl (ev1 rfl)) ?_
  refine qk ?_
  refine qc rfl (rfl) ?_
  refine zar ?_
  refine zac ?_
  refine za rfl (ql rfl (ev1 rfl) (ev1 rfl) (fun _ => qbB _ (by omega))) ?_
  refine zaa 1 rfl ?_
  refine zab ?_
  refine ⟨k + 1, [0, 1, 2, 3, 4, 5, 7], ⟨by omega, by omega⟩, by simp only []; omega, rfl, ⟨rfl, rfl, rfl, rfl, rfl, rfl, trivial⟩, ⟨rfl, rfl, rfl, rfl, rfl, rfl, Vp (by simp) (XN sn b k).symm, trivial⟩⟩
 ·try simp only [decide_eq_true_eq, decide_eq_false_iff_not, beq_iff_eq, bne_iff_ne, beq_eq_false_iff_ne, bne_eq_false_iff_eq, qbx, qby, qbu, qbE, qbv, ne_eq, Decidable.not_not, qbQ, qbR] at c3
  refine qD ?_
  obtain rfl : k = mnN b := by omega
  refine ko [0, 1, 2, 3, 4, 5, 6] (qH rfl) rfl rfl ?_ ⟨?_, ?_, ?_, ?_, ?_, ?_, ?_, trivial⟩
  rfl
  all_goals first | exact rfl | exact Vp rfl rfl
theorem cut_d (sn : Int) (b : List Int) (h1 : snB sn = true) (h2 : 0 < b.length) (h3 : b.length ≤ 16384) : DFun Tryz.prog 19 [.val (.int .u64 sn), .slf 1 (b).length ((b).flatMap uc8)] [] (.tup [.slm 4 (Yu sn b).length ((Yu sn b).flatMap pcD), .val (.int .i64 0)]) [] := by
 refine qo (N := 18) 0 (by kernel_rfl) Tryz.func19 rfl rfl rfl (by simp only [fr0, qbs, qbt]; exact rfl) rfl fun s0 hs0 => ?_
 refine qz rfl hs0 ?_
 refine zao 1 ?_
 refine zac ?_
 refine zaa 1 rfl ?_
 refine zak rfl (zaq 0 rfl jT rfl) ?_
 refine zab ?_
 refine qr (l0 := [_]) rfl rfl rfl rfl rfl hs0 ?_
 refine za rfl (qV rfl en (ec (ev1 rfl) en)) ?_
 refine zab ⟨_, _, _, 1, ev1 rfl, qbK hs0 (by decide), rfl, ?_⟩
 have hs1 : s0.M.length ≤ 1 := qbK hs0 (by decide)
 refine qy rfl hs0 ?_
 refine zae ?_
 refine zao 1 ?_
 refine zac ?_
 refine zak rfl (zaq 1 rfl zr48 rfl) ?_
 refine zab ?_
 refine zae ?_
 refine zae ?_
 refine zao 3 ?_
 refine zac ?_
 refine zaa 2 rfl ?_
 refine zak rfl (zaj [] [] [2, 3, 4] rfl (ev1 rfl) (ec (ev1 rfl) (ec (ev1 rfl) en)) rfl rfl (pcs_d sn b h1 h2 h3) rfl rfl rfl rfl rfl rfl) ?_
 refine zab ?_
 refine zat ?_
 refine zD 1 53 4 rfl (by simp only [qbD, qbF, zaf, zag, qbW, qce, qbs, qbt]; exact rfl) ?_
 refine jg 5 Zy rfl rfl (by simp only [qbD, qbF, zaf, zag, List.map]; exact rfl) ?_
 refine ym ?_
 refine ym ?_
 simp only [qbD, qbF]
 refine YR (FL := [(6, _)]) (st := .ready) (pe := none) [6, 1, 5, 2, 3, 4] [] [7] 6 rfl rfl (ev1 rfl) rfl (wJ ⟨rfl, trivial⟩) rfl rfl rfl (qba sn b h2 h3) rfl rfl rfl (by exact (wrc rfl (wrc rfl (wrc rfl (wrc rfl (wrc rfl (wrc rfl (wrc (by first | exact rfl | exact kB (fun _ => rfl) | exact kg (qf (fun _ => rfl) _) | exact q9 (fun _ => rfl) | exact ki (fun _ => rfl)) rfl)))))))) rfl rfl rfl (by simp) (fun e => ?_) (fun c e => ?_)
 ·simp only [upd, zaf, zag]
  refine zae ?_
  refine KP 1 0 (Vo _) rfl rfl rfl (by simp only [zaf, zag]; exact rfl) ?_
  refine zac ?_
  refine za rfl (zan rfl tb48 (ev1 rfl) rfl rfl) ?_
  refine zaa 1 rfl ?_
  refine zas rfl (qK rfl qX (ev1 rfl) (ev1 rfl) rfl) ?_
  refine zab ?_
  refine qa ?_
  refine jH (kL [0] [] rfl rfl (Qo _) rfl rfl rfl rfl rfl) ?_
  refine qx (rs2 rfl (qL rfl) (js qX rfl rfl rfl)) rfl ?_
  rfl
 ·cases e
end Go.Proofs.YtofklkbfkoliiaaGreat
namespace Go.Proofs.YtofklkbfkoliiaaGreat
set_option linter.unusedVariables false
set_option linter.unusedSimpArgs false
open Go.RowKit
theorem qbb : kH zPi = true := by kernel_rfl
end Go.Proofs.YtofklkbfkoliiaaGreat
namespace Go.Proofs.YtofklkbfkoliiaaGreat
set_option linter.unusedVariables false
set_option linter.unusedSimpArgs false
open Go.RowKit
attribute [local irreducible] kP ji yp gI qW jn rdP rdN yo
theorem jE {a : List Int} (ha : isB a) (n : Nat) : isB (a.drop n) := fun z hz => ha z (List.mem_of_mem_drop hz)
end Go.Proofs.YtofklkbfkoliiaaGreat
namespace Go.Proofs.YtofklkbfkoliiaaGreat
set_option linter.unusedVariables false
set_option linter.unusedSimpArgs false
open Go.RowKit
attribute [local irreducible] tkN jC kG
theorem uv : fdO Tryz.prog 29 0 = some 0 := by kernel_rfl
theorem vN : fdO Tryz.prog 29 1 = some 3 := by kernel_rfl
theorem vO : fdO Tryz.prog 29 2 = some 4 := by kernel_rfl
theorem wz : fdO Tryz.prog 29 3 = some 5 := by kernel_rfl
structure SnM where
 w : Int
 h : Int
 ts : List TL
 f : Int
 st : Int
 v : Vec
def snL (s : SnM) : List D := [.val (.int .i64 s.w), .val (.int .i64 s.h), .slf 256 s.ts.length (s.ts.flatMap tc), .val (.int .u64 s.f), .val (.int .u64 s.st), .val (.int .u64 (s.v 0)), .val (.int .u64 (s.v 1)), .val (.int .u64 (s.v 2)), .val (.int .u64 (s.v 3)), .val (.int .u64 (s.v 4)), .val (.int .u64 (s.v 5)), .val (.int .u64 (s.v 6)), .val (.int .u64 (s.v 7)), .val (.int .u64 (s.v 8))]
def uw (s : SnM) : Bool := ((jl s.w s.h s.ts && decide (s.f ≤ s.st)) && decide (s.st ≤ 4611686018427387904)) && vB s.v
theorem snC (s : SnM) : ((((wn (jl s.w s.h s.ts) 150 != 0) || decide (s.st < s.f)) || decide (4611686018427387904 < s.st)) || (wn (vB s.v) 230 != 0)) = !(uw s) := by
 rw [vm _ (by decide), vm _ (by decide)]
 unfold uw
 cases jl s.w s.h s.ts <;> cases vB s.v <;> simp <;> (rw [Bool.eq_iff_iff]; simp; try omega)
def Yw (s t : SnM) : Bool := ((decide (s.w = t.w ∧ s.h = t.h ∧ s.ts = t.ts) && (s.f == t.f)) && (s.st == t.st)) && eqV s.v t.v
theorem Ka (s : SnM) : DFun Tryz.prog 10 [.agg (snL s)] [] (.val (.int .i64 (wn (uw s) 310))) [] := by
 refine zap (N := 25) 0 (by kernel_rfl) Tryz.func10 rfl rfl rfl (by simp only [fr0, qbs, qbt]; exact rfl) rfl fun s0 hs0 => ?_
 refine zae ?_
 refine zao 1 ?_
 refine zac ?_
 refine zak rfl (qd 0 rfl (ev1 rfl) rfl) ?_
 refine zaa 1 rfl ?_
 refine zab ?_
 refine zae ?_
 refine zah ?_
 refine za rfl (zam rfl uv (ev1 rfl)) ?_
 refine za rfl (uQ rfl vV (ev1 rfl) rfl rfl rfl) ?_
 refine za rfl (zaj [] [] [] rfl (ev1 rfl) (ec (ev1 rfl) en) rfl rfl (G0 s.w s.h s.ts) rfl rfl rfl rfl rfl rfl) ?_
 refine za rfl (qT rfl (ev1 rfl) (ev1 rfl)) ?_
 refine zaa 1 rfl ?_
 refine zai (qe rfl rfl rfl) rfl rfl rfl (zam rfl vN (ev1 rfl)) ?_
 refine zai (qe rfl rfl rfl) rfl rfl rfl (zan rfl qZ (ev2 rfl) rfl rfl) ?_
 refine zai (qe rfl rfl rfl) rfl rfl rfl (zam rfl vO (ev1 rfl)) ?_
 refine zai (qe rfl rfl rfl) rfl rfl rfl (zan rfl qZ (ev2 rfl) rfl rfl) ?_
 refine zai (qe rfl rfl rfl) rfl rfl rfl (kA rfl (ev2 rfl) (ev2 rfl)) ?_
 refine za rfl (kx rfl (ev1 rfl) (ev3 rfl id)) ?_
 refine zaa 1 rfl ?_
 refine zai (qe rfl rfl rfl) rfl rfl rfl (zam rfl vO (ev1 rfl)) ?_
 refine zai (qe rfl rfl rfl) rfl rfl rfl (zan rfl qZ (ev2 rfl) rfl rfl) ?_
 refine zai (qe rfl rfl rfl) rfl rfl rfl (kA rfl (ev2 rfl) (ev1 rfl)) ?_
 refine za rfl (kx rfl (ev1 rfl) (ev3 rfl id)) ?_
 refine zaa 1 rfl ?_
 refine zai (qe rfl rfl rfl) rfl rfl rfl (zam rfl wz (ev1 rfl)) ?_
 refine zai (qe rfl rfl rfl) rfl rfl rfl (xZ (R := [_, _, _, _, _, _, _, _, _]) rfl gR (ev2 rfl) rfl rfl rfl) ?_
 refine zai (qe rfl rfl rfl) rfl rfl rfl (zaj [] [] [] rfl (ev1 rfl) (ec (ev2 rfl) en) rfl rfl (uV s.v) rfl rfl rfl rfl rfl rfl) ?_
 refine zai (qe rfl rfl rfl) rfl rfl rfl (qT rfl (ev2 rfl) (ev1 rfl)) ?_
 refine za rfl (kx rfl (ev1 rfl) (ev3 rfl id)) ?_
 refine zab ?_
 refine qh rfl (fun c1 => ?_) (fun c1 => ?_)
 ·refine zah ?_
  refine zaa 1 rfl ?_
  refine zab ?_
  refine qa ?_
  refine qx (rs1 rfl (qL rfl)) rfl ?_
  have h : uw s = false := by
   rw [snC] at c1
   simpa using c1
  rw [h]
  rfl
 ·refine zar ?_
  refine zah ?_
  refine zaa 1 rfl ?_
  refine zab ?_
  refine qa ?_
  refine qx (rs1 rfl (qL rfl)) rfl ?_
  have h : uw s = true := by
   rw [snC] at c1
   simpa using c1
  rw [h]
  rfl
theorem HC (s t : SnM) (hn : s.ts.length ≤ 5000) : DFun Tryz.prog 12 [.agg (snL s), .agg (snL t)] [] (.val (.bool (Yw s t))) [] := by
 refine zap (N := 31) 0 (by kernel_rfl) Tryz.func12 rfl rfl rfl (by simp only [fr0, qbs, qbt]; exact rfl) rfl fun s0 hs0 => ?_
 refine zae ?_
 refine zao 2 ?_
 refine zac ?_
 refine zak rfl (qd 0 rfl (ev1 rfl) rfl) ?_
 refine zak rfl (qd 1 rfl (ev1 rfl) rfl) ?_
 refine zaa 1 rfl ?_
 refine zab ?_
 refine zah ?_
 refine za rfl (zam rfl vN (ev1 rfl)) ?_
 refine za rfl (zan rfl qZ (ev1 rfl) rfl rfl) ?_
 refine za rfl (zam rfl vN (ev1 rfl)) ?_
 refine za rfl (zan rfl qZ (ev1 rfl) rfl rfl) ?_
 refine za rfl (qm rfl (ev1 rfl) (ev1 rfl)) ?_
 refine zaa 1 rfl ?_
 refine zai (qn rfl rfl rfl) rfl rfl rfl (zam rfl vO (ev1 rfl)) ?_
 refine zai (qn rfl rfl rfl) rfl rfl rfl (zan rfl qZ (ev2 rfl) rfl rfl) ?_
 refine zai (qn rfl rfl rfl) rfl rfl rfl (zam rfl vO (ev1 rfl)) ?_
 refine zai (qn rfl rfl rfl) rfl rfl rfl (zan rfl qZ (ev2 rfl) rfl rfl) ?_
 refine zai (qn rfl rfl rfl) rfl rfl rfl (qm rfl (ev2 rfl) (ev2 rfl)) ?_
 refine za rfl (qC rfl (ev1 rfl) (ev3 rfl id)) ?_
 refine zaa 1 rfl ?_
 refine zai (qn rfl rfl rfl) rfl rfl rfl (zam rfl wz (ev1 rfl)) ?_
 refine zai (qn rfl rfl rfl) rfl rfl rfl (xZ (R := [_, _, _, _, _, _, _, _, _]) rfl gR (ev2 rfl) rfl rfl rfl) ?_
 refine zai (qn rfl rfl rfl) rfl rfl rfl (zam rfl wz (ev1 rfl)) ?_
 refine zai (qn rfl rfl rfl) rfl rfl rfl (xZ (R := [_, _, _, _, _, _, _, _, _]) rfl gR (ev2 rfl) rfl rfl rfl) ?_
 refine zai (qn rfl rfl rfl) rfl rfl rfl (vE eq27 rfl gd27 gR (ev2 rfl) (ev2 rfl)) ?_
 refine za rfl (qC rfl (ev1 rfl) (ev3 rfl id)) ?_
 refine zaa 1 rfl ?_
 refine zai (qn rfl rfl rfl) rfl rfl rfl (zam rfl uv (ev1 rfl)) ?_
 refine zai (qn rfl rfl rfl) rfl rfl rfl (uQ rfl vV (ev2 rfl) rfl rfl rfl) ?_
 refine zai (qn rfl rfl rfl) rfl rfl rfl (zam rfl uv (ev1 rfl)) ?_
 refine zai (qn rfl rfl rfl) rfl rfl rfl (uQ rfl vV (ev2 rfl) rfl rfl rfl) ?_
 refine zai (qn rfl rfl rfl) rfl rfl rfl (zaj [] [] [] rfl (ev1 rfl) (ec (ev2 rfl) (ec (ev2 rfl) en)) rfl rfl (qaz s.w s.h t.w t.h s.ts t.ts hn) rfl rfl rfl rfl rfl rfl) ?_
 refine za rfl (qC rfl (ev1 rfl) (ev3 rfl id)) ?_
 refine zaa 1 rfl ?_
 refine zab ?_
 refine qa ?_
 refine qx (rs1 rfl (qL rfl)) rfl ?_
 unfold Yw
 generalize decide (s.w = t.w ∧ s.h = t.h ∧ s.ts = t.ts) = a
 generalize (s.f == t.f) = b
 generalize (s.st == t.st) = c
 generalize eqV s.v t.v = d
 cases a <;> cases b <;> cases c <;> cases d <;> rfl
end Go.Proofs.YtofklkbfkoliiaaGreat
namespace Go.Proofs.YtofklkbfkoliiaaGreat
set_option linter.unusedVariables false
set_option linter.unusedSimpArgs false
open Go.RowKit
attribute [local irreducible] tkN jC kG k7 vL kK jl
theorem vP : tyB Tryz.prog 29 = some (true, 14) := by kernel_rfl
abbrev Vq (s : SnM) : List (List Int) := [k7 8 s.f ++ k7 8 s.st, vL s.v, kK s.w s.h s.ts]
def gj (s : SnM) : List Int := (Vq s).flatten
theorem snOk_iff {s : SnM} : uw s = true ↔ jl s.w s.h s.ts = true ∧ s.f ≤ s.st ∧ s.st ≤ 4611686018427387904 ∧ vB s.v = true := by
 unfold uw
 simp only [qbu, decide_eq_true_eq, and_assoc]
theorem Yx (v : Vec) : (vL v).length = 64 := by
 unfold vL
 exact K9 (gY v)
theorem qbc (v : Vec) (hv : vB v = true) : DFun Tryz.prog 50 [.val (.agg (c9 v).toArray)] [] (.tup [.slf 1 (vL v).length ((vL v).flatMap uc8), .val (.int .i64 0)]) [] := yc (qa2 v hv) rfl
theorem e8N : ((256 ^ 8 : Nat) : Int) = 18446744073709551616 := by decide
theorem Kb {s : SnM} (h : jl s.w s.h s.ts = true) : (gj s).length = 80 + (kK s.w s.h s.ts).length ∧ (kK s.w s.h s.ts).length ≤ 5122 ∧ 3 ≤ (kK s.w s.h s.ts).length ∧ s.ts.length ≤ 16 := by
 have g := J1 h
 have g2 := wo g.2.2.1
 have g3 := Xz s.w s.h s.ts
 unfold gj Vq
 simp only [List.flatten_cons, List.flatten_nil, qbz, gh, Yx, qci]
 omega
theorem WA (s : SnM) (h : uw s = true) (hf : 0 ≤ s.f)  : DFun Tryz.prog 13 [.agg (snL s)] [] (.tup [.slf 1 (gj s).length ((gj s).flatMap uc8), .val (.int .i64 0)]) [] := by
 obtain ⟨hr, hfs, hst, hv⟩ := snOk_iff.1 h
 obtain ⟨k1, k2, k3, k4⟩ := Kb hr
 refine qo (N := 35) 0 (by kernel_rfl) Tryz.func13 rfl rfl rfl (by simp only [fr0, qbs, qbt]; exact rfl) rfl fun s0 hs0 => ?_
 refine qz rfl hs0 ?_
 refine zao 2 ?_
 refine zac ?_
 refine zak rfl (qd 0 rfl (ev1 rfl) rfl) ?_
 refine zaa 1 rfl ?_
 refine zak rfl (zaq 1 rfl jT rfl) ?_
 refine zab ?_
 refine qr (l0 := [_]) rfl rfl rfl rfl rfl hs0 ?_
 refine za rfl (qV rfl en (ec (ev1 rfl) en)) ?_
 refine zab ⟨_, _, _, 2, ev1 rfl, qbK hs0 (by decide), rfl, ?_⟩
 have hs1 : s0.M.length ≤ 2 := qbK hs0 (by decide)
 refine qy rfl hs0 ?_
 refine zah ?_
 refine za rfl (qb rfl vP (ev1 rfl) rfl rfl) ?_
 refine za rfl (zaj [] [] [] rfl (ev1 rfl) (ec (ev1 rfl) en) rfl rfl (Ka s) rfl rfl rfl rfl rfl rfl) ?_
 refine za rfl (qm rfl (ev1 rfl) (ev1 rfl)) ?_
 refine za rfl (zaj [] [] [] rfl (ev1 rfl) (ec (ev1 rfl) (ec (ev1 rfl) en)) rfl rfl (qR _ _ (by rw [h]; rfl)) rfl rfl rfl rfl rfl rfl) ?_
 refine zab ?_
 refine zah ?_
 refine za rfl (xv (ps := [(0, .const (.int .i64 8)), (1, .const (.int .i64 8))]) rfl um zr3 rfl (vc (ev1 rfl) (vc (ev1 rfl) vn)) rfl (by decide) (by decide)) ?_
 refine za rfl (zam rfl vN (ev1 rfl)) ?_
 refine za rfl (zan rfl qZ (ev1 rfl) rfl rfl) ?_
 refine za rfl (zam rfl vO (ev1 rfl)) ?_
 refine za rfl (zan rfl qZ (ev1 rfl) rfl rfl) ?_
 refine za rfl (xv (ps := [(0, .tmp 12), (1, .tmp 14)]) rfl KX zr25 rfl (vc (ev1 rfl) (vc (ev1 rfl) vn)) rfl (by decide) (by decide)) ?_
 refine za rfl (zaj [] [] [] rfl (ev1 rfl) (ec (ev1 rfl) (ec (ev1 rfl) en)) rfl rfl (Hn s.f s.st (by rw [e8N]; omega) (by rw [e8N]; omega)) rfl rfl rfl rfl rfl rfl) ?_
 refine zaa 2 rfl ?_
 refine za rfl (zaj [] [] [] rfl (ev1 rfl) (ec (ev1 rfl) (ec (ev1 rfl) en)) rfl rfl (z5 (k7 8 s.f ++ k7 8 s.st)) rfl rfl rfl rfl rfl rfl) ?_
 refine zaa 1 rfl ?_
 refine zab ?_
 refine zae ?_
 refine qg [([], []), ([], []), ([0], []), ([], []), ([], []), ([], []), ([], []), ([], []), ([0], []), ([], []), ([], []), ([], []), ([], []), ([], []), ([], []), ([], []), ([1], [1])] qP (by kernel_rfl) ?_
 refine zad rfl rfl (zal (.inl rfl) (ev1 rfl)) ?_
 refine zad rfl rfl (zam rfl wz (ev1 rfl)) ?_
 refine zad rfl rfl (xZ (R := [_, _, _, _, _, _, _, _, _]) rfl gR (ev1 rfl) rfl rfl rfl) ?_
 refine zad rfl rfl (zaj [] [] [] rfl (ev1 rfl) (ec (ev1 rfl) en) rfl rfl (qbc s.v hv) rfl rfl rfl rfl rfl rfl) ?_
 refine zad rfl rfl (jN rfl (ev1 rfl) rfl) ?_
 refine zad rfl rfl (jN rfl (ev1 rfl) rfl) ?_
 refine zad rfl rfl (zaj [] [] [] rfl (ev1 rfl) (ec (ev1 rfl) (ec (ev1 rfl) en)) rfl rfl (z5 (vL s.v)) rfl rfl rfl rfl rfl rfl) ?_
 refine zad rfl rfl (zam rfl uv (ev1 rfl)) ?_
 refine zad rfl rfl (uQ rfl vV (ev1 rfl) rfl rfl rfl) ?_
 refine zad rfl rfl (zaj [] [] [] rfl (ev1 rfl) (ec (ev1 rfl) en) rfl rfl (cnv_f s.w s.h s.ts hr (by omega)) rfl rfl rfl rfl rfl rfl) ?_
 refine zad rfl rfl (jN rfl (ev1 rfl) rfl) ?_
 refine zad rfl rfl (jN rfl (ev1 rfl) rfl) ?_
 refine zad rfl rfl (zaj [] [] [] rfl (ev1 rfl) (ec (ev1 rfl) (ec (ev1 rfl) en)) rfl rfl (z5 (kK s.w s.h s.ts)) rfl rfl rfl rfl rfl rfl) ?_
 refine zad rfl rfl (YT (ps := [(0, .tmp 20), (1, .tmp 26), (2, .tmp 32)]) rfl kO uU rfl (ec (ev1 rfl) (ec (ev1 rfl) (ec (ev1 rfl) en))) rfl (by decide)) ?_
 refine zad rfl rfl (zaj [] [] [] rfl (ev1 rfl) (ec (ev1 rfl) en) rfl rfl (yS (Vq s) 3 _ rfl rfl (by show (gj s).length ≤ _; omega)) rfl rfl rfl rfl rfl rfl) ?_
 refine zad rfl rfl (zal (.inr rfl) (ev1 rfl)) ?_
 refine j0 rfl rfl (qK rfl qX (ev1 rfl) (ev1 rfl) rfl) rfl (by simp only [upd, zaf, zag]; exact rfl) ?_
 refine qk ?_
 refine qa ?_
 refine jH (kL [1] [] rfl rfl (J5 _) rfl rfl rfl rfl rfl) ?_
 refine qx (rs2 rfl (qL rfl) (js qX rfl rfl rfl)) rfl ?_
 rfl
end Go.Proofs.YtofklkbfkoliiaaGreat
namespace Go.Proofs.YtofklkbfkoliiaaGreat
set_option linter.unusedVariables false
set_option linter.unusedSimpArgs false
open Go.RowKit
attribute [local irreducible] tkN jC kG k7 vL kK jl Yj gg XB
theorem fl29 : fdL Tryz.prog 29 = some [(0, 3), (3, 1), (4, 1), (5, 9)] := by kernel_rfl
theorem xN : zrC Tryz.prog 29 = some [.int .i64 0, .int .i64 0, .slice none 0 0, .int .u64 0, .int .u64 0, .int .u64 0, .int .u64 0, .int .u64 0, .int .u64 0, .int .u64 0, .int .u64 0, .int .u64 0, .int .u64 0, .int .u64 0] := by kernel_rfl
theorem Yy (s : SnM) (e : Int) : DDef Tryz.prog 55 [.loc 0 0, .loc 1 0] [.mix 29 (snL s), .flat 34 [.int .i64 e]] none none [.mix 29 (snL s), .flat 34 [.int .i64 e]] := by
 refine uJ (dr := .tup []) (t := 2) (N := 6) 2 (by kernel_rfl) Tryz.func55 rfl rfl rfl (by simp only [fr0, qbs, qbt]; exact rfl) rfl rfl rfl rfl rfl fun s0 hs0 => ?_
 refine za rfl (zaj [] [] [] rfl (ev1 rfl) (ec (ev1 rfl) en) rfl rfl (vl) rfl rfl rfl rfl rfl rfl) ?_
 refine za rfl (qT rfl (ev1 rfl) (ev1 rfl)) ?_
 refine zab ?_
 refine qc rfl (rfl) ?_
 refine zar ?_
 refine ko [0, 1] (qH rfl) rfl rfl ?_ ⟨rfl, rfl, trivial⟩
 rfl
theorem wP (f st : Int) (v : Vec) (e n : Int) (hn : n ≠ 0) : DDef Tryz.prog 55 [.loc 0 0, .loc 1 0] [.mix 29 ([.int .i64 0, .int .i64 0, .slice none 0 0, .int .u64 f, .int .u64 st, .int .u64 (v 0), .int .u64 (v 1), .int .u64 (v 2), .int .u64 (v 3), .int .u64 (v 4), .int .u64 (v 5), .int .u64 (v 6), .int .u64 (v 7), .int .u64 (v 8)].map D.val), .flat 34 [.int .i64 e]] (some (.ifc 125 (.val (.agg #[.int .i64 n])))) none [.mix 29 ([.int .i64 0, .int .i64 0, .slice none 0 0, .int .u64 0, .int .u64 0, .int .u64 0, .int .u64 0, .int .u64 0, .int .u64 0, .int .u64 0, .int .u64 0, .int .u64 0, .int .u64 0, .int .u64 0].map D.val), .flat 34 [.int .i64 310]] := by
 refine uJ (dr := .tup []) (t := 2) (N := 6) 2 (by kernel_rfl) Tryz.func55 rfl rfl rfl (by simp only [fr0, qbs, qbt]; exact rfl) rfl rfl rfl rfl rfl fun s0 hs0 => ?_
 refine za rfl (zaj [] [] [] rfl (ev1 rfl) (ec (ev1 rfl) en) rfl rfl (u5 n) rfl rfl rfl rfl rfl rfl) ?_
 refine za rfl (qT rfl (ev1 rfl) (ev1 rfl)) ?_
 refine zab ?_
 refine qJ rfl (by simpa using hn) ?_
 refine zac ?_
 refine za rfl (k8 rfl fl29 xN) ?_
 refine zas rfl (yE rfl vP (ev1 rfl) (vg (ev1 rfl) (Wk.vagg _)) rfl rfl rfl rfl rfl) ?_
 refine zas rfl (qK rfl qX (ev1 rfl) (ev1 rfl) rfl) ?_
 refine zab ?_
 refine ko [0, 1] (qH rfl) rfl rfl ?_ ⟨rfl, rfl, trivial⟩
 rfl
theorem WB (s : SnM) (e n : Int) (hn : n ≠ 0) : DDef Tryz.prog 55 [.loc 0 0, .loc 1 0] [.mix 29 (snL s), .flat 34 [.int .i64 e]] (some (.ifc 125 (.val (.agg #[.int .i64 n])))) none [.mix 29 ([.int .i64 0, .int .i64 0, .slice none 0 0, .int .u64 0, .int .u64 0, .int .u64 0, .int .u64 0, .int .u64 0, .int .u64 0, .int .u64 0, .int .u64 0, .int .u64 0, .int .u64 0, .int .u64 0].map D.val), .flat 34 [.int .i64 310]] := by
 refine uJ (dr := .tup []) (t := 2) (N := 6) 2 (by kernel_rfl) Tryz.func55 rfl rfl rfl (by simp only [fr0, qbs, qbt]; exact rfl) rfl rfl rfl rfl rfl fun s0 hs0 => ?_
 refine za rfl (zaj [] [] [] rfl (ev1 rfl) (ec (ev1 rfl) en) rfl rfl (u5 n) rfl rfl rfl rfl rfl rfl) ?_
 refine za rfl (qT rfl (ev1 rfl) (ev1 rfl)) ?_
 refine zab ?_
 refine qJ rfl (by simpa using hn) ?_
 refine zac ?_
 refine za rfl (k8 rfl fl29 xN) ?_
 refine zas rfl (yE rfl vP (ev1 rfl) (vg (ev1 rfl) (Wk.vagg _)) rfl rfl rfl rfl rfl) ?_
 refine zas rfl (qK rfl qX (ev1 rfl) (ev1 rfl) rfl) ?_
 refine zab ?_
 refine ko [0, 1] (qH rfl) rfl rfl ?_ ⟨rfl, rfl, trivial⟩
 rfl
theorem wQ {l r : List Int} {v : Vec} (hl : okL l) (h : vW l = .ok v r) : 64 ≤ l.length ∧ r = l.drop 64 ∧ r.length = l.length - 64 ∧ vB v = true ∧ (∀ i, 9 ≤ i → v i = 0) ∧ l = vL v ++ r := by
 obtain ⟨h1, h2, h3⟩ := (Ay 110 290).bwd l v r hl.1 h
 have h4 := Yx v
 have h5 : l.length = 64 + r.length := by rw [h1, qbz, h4]
 refine ⟨by omega, ?_, by omega, h2, h3, h1⟩
 rw [h1, List.drop_left' h4]
theorem XO (b : List Int) (hl : b.length ≤ 30000) (hi : isB b) (h : b.length < 8) : DFun Tryz.prog 17 [.slf 1 (b).length ((b).flatMap uc8)] [] (.tup [.agg ([.int .i64 0, .int .i64 0, .slice none 0 0, .int .u64 0, .int .u64 0, .int .u64 0, .int .u64 0, .int .u64 0, .int .u64 0, .int .u64 0, .int .u64 0, .int .u64 0, .int .u64 0, .int .u64 0].map D.val), .val (.int .i64 310)]) [] := by
 refine qo (N := 57) 0 (by kernel_rfl) Tryz.func17 rfl rfl rfl (by simp only [fr0, qbs, qbt]; exact rfl) rfl fun s0 hs0 => ?_
 refine qz rfl hs0 ?_
 refine zao 2 ?_
 refine zac ?_
 refine zak rfl (zaq 0 rfl xN rfl) ?_
 refine zak rfl (zaq 1 rfl jT rfl) ?_
 refine zab ?_
 refine qr (l0 := [_]) rfl rfl rfl rfl rfl hs0 ?_
 refine za rfl (qV rfl en (ec (ev1 rfl) (ec (ev1 rfl) en))) ?_
 refine zab ⟨_, _, _, 2, ev1 rfl, qbK hs0 (by decide), rfl, ?_⟩
 have hs1 : s0.M.length ≤ 2 := qbK hs0 (by decide)
 refine qy rfl hs0 ?_
 refine zae ?_
 refine jg 0 yZ rfl rfl (by simp only [qbD, qbF, zaf, zag, List.map]; exact rfl) ?_
 refine zac ?_
 refine zaa 1 rfl ?_
 refine za rfl (zaj [] [] [] rfl (ev1 rfl) (ec (ev1 rfl) (ec (ev1 rfl) (ec (ev1 rfl) en))) rfl rfl (Vh b (by omega) 0 (by omega) (by omega)) rfl rfl rfl rfl rfl rfl) ?_
 refine zaa 2 rfl ?_
 refine ky rfl (qw [] [] [] rfl (ev1 rfl) (ec (ev1 rfl) (ec (ev1 rfl) en)) rfl rfl (Yq _ _ rfl) rfl rfl rfl rfl rfl rfl) rfl ?_
 refine jH (qQ [0, 1] [] rfl rfl rfl (wP _ _ z9 _ _ (by first | decide | assumption)) rfl rfl rfl rfl rfl) ?_
 refine qx (rs2 rfl (y0 vP rfl rfl rfl) (js qX rfl rfl rfl)) rfl ?_
 rfl
theorem XP (b : List Int) (hl : b.length ≤ 30000) (hi : isB b) (h8 : 8 ≤ b.length) (h : b.length < 16) : DFun Tryz.prog 17 [.slf 1 (b).length ((b).flatMap uc8)] [] (.tup [.agg ([.int .i64 0, .int .i64 0, .slice none 0 0, .int .u64 0, .int .u64 0, .int .u64 0, .int .u64 0, .int .u64 0, .int .u64 0, .int .u64 0, .int .u64 0, .int .u64 0, .int .u64 0, .int .u64 0].map D.val), .val (.int .i64 310)]) [] := by
 refine qo (N := 57) 0 (by kernel_rfl) Tryz.func17 rfl rfl rfl (by simp only [fr0, qbs, qbt]; exact rfl) rfl fun s0 hs0 => ?_
 refine qz rfl hs0 ?_
 refine zao 2 ?_
 refine zac ?_
 refine zak rfl (zaq 0 rfl xN rfl) ?_
 refine zak rfl (zaq 1 rfl jT rfl) ?_
 refine zab ?_
 refine qr (l0 := [_]) rfl rfl rfl rfl rfl hs0 ?_
 refine za rfl (qV rfl en (ec (ev1 rfl) (ec (ev1 rfl) en))) ?_
 refine zab ⟨_, _, _, 2, ev1 rfl, qbK hs0 (by decide), rfl, ?_⟩
 have hs1 : s0.M.length ≤ 2 := qbK hs0 (by decide)
 refine qy rfl hs0 ?_
 refine zae ?_
 refine jg 0 yZ rfl rfl (by simp only [qbD, qbF, zaf, zag, List.map]; exact rfl) ?_
 refine zac ?_
 refine zaa 1 rfl ?_
 refine za rfl (zaj [] [] [] rfl (ev1 rfl) (ec (ev1 rfl) (ec (ev1 rfl) (ec (ev1 rfl) en))) rfl rfl (yG b (by omega) 0 (by omega)) rfl rfl rfl rfl rfl rfl) ?_
 refine zaa 2 rfl ?_
 refine za rfl (zaj [] [] [] rfl (ev1 rfl) (ec (ev1 rfl) (ec (ev1 rfl) en)) rfl rfl (gT (kG 8 b)) rfl rfl rfl rfl rfl rfl) ?_
 refine za rfl (zam rfl vN (ev1 rfl)) ?_
 refine zas rfl (kJ rfl qZ (ev1 rfl) (ev1 rfl) (fun s v h => by cases h <;> exact ⟨rfl, rfl⟩) rfl (by first | decide | exact qbA rfl | simp)) ?_
 refine zab ?_
 refine zah ?_
 refine zaa 1 rfl ?_
 refine za rfl (zaj [] [] [] rfl (ev1 rfl) (ec (ev1 rfl) (ec (ev1 rfl) (ec (ev1 rfl) en))) rfl rfl (Vh b (by omega) 8 (by omega) (by omega)) rfl rfl rfl rfl rfl rfl) ?_
 refine zaa 2 rfl ?_
 refine ky rfl (qw [] [] [] rfl (ev1 rfl) (ec (ev1 rfl) (ec (ev1 rfl) en)) rfl rfl (Yq _ _ rfl) rfl rfl rfl rfl rfl rfl) rfl ?_
 refine jH (qQ [0, 1] [] rfl rfl rfl (wP _ _ z9 _ _ (by first | decide | assumption)) rfl rfl rfl rfl rfl) ?_
 refine qx (rs2 rfl (y0 vP rfl rfl rfl) (js qX rfl rfl rfl)) rfl ?_
 rfl
theorem XQ (b : List Int) (hl : b.length ≤ 30000) (hi : isB b) (h16 : 16 ≤ b.length) (e : Int) (he : e ≠ 0) (hv : vW (b.drop 16) = .err e) : DFun Tryz.prog 17 [.slf 1 (b).length ((b).flatMap uc8)] [] (.tup [.agg ([.int .i64 0, .int .i64 0, .slice none 0 0, .int .u64 0, .int .u64 0, .int .u64 0, .int .u64 0, .int .u64 0, .int .u64 0, .int .u64 0, .int .u64 0, .int .u64 0, .int .u64 0, .int .u64 0].map D.val), .val (.int .i64 310)]) [] := by
 have hld : (b.drop 16).length = b.length - 16 := qbZ
 have hk1 : okL (b.drop 16) := ⟨jE hi 16, by omega⟩
 refine qo (N := 57) 0 (by kernel_rfl) Tryz.func17 rfl rfl rfl (by simp only [fr0, qbs, qbt]; exact rfl) rfl fun s0 hs0 => ?_
 refine qz rfl hs0 ?_
 refine zao 2 ?_
 refine zac ?_
 refine zak rfl (zaq 0 rfl xN rfl) ?_
 refine zak rfl (zaq 1 rfl jT rfl) ?_
 refine zab ?_
 refine qr (l0 := [_]) rfl rfl rfl rfl rfl hs0 ?_
 refine za rfl (qV rfl en (ec (ev1 rfl) (ec (ev1 rfl) en))) ?_
 refine zab ⟨_, _, _, 2, ev1 rfl, qbK hs0 (by decide), rfl, ?_⟩
 have hs1 : s0.M.length ≤ 2 := qbK hs0 (by decide)
 refine qy rfl hs0 ?_
 refine zae ?_
 refine jg 0 yZ rfl rfl (by simp only [qbD, qbF, zaf, zag, List.map]; exact rfl) ?_
 refine zac ?_
 refine zaa 1 rfl ?_
 refine za rfl (zaj [] [] [] rfl (ev1 rfl) (ec (ev1 rfl) (ec (ev1 rfl) (ec (ev1 rfl) en))) rfl rfl (yG b (by omega) 0 (by omega)) rfl rfl rfl rfl rfl rfl) ?_
 refine zaa 2 rfl ?_
 refine za rfl (zaj [] [] [] rfl (ev1 rfl) (ec (ev1 rfl) (ec (ev1 rfl) en)) rfl rfl (gT (kG 8 b)) rfl rfl rfl rfl rfl rfl) ?_
 refine za rfl (zam rfl vN (ev1 rfl)) ?_
 refine zas rfl (kJ rfl qZ (ev1 rfl) (ev1 rfl) (fun s v h => by cases h <;> exact ⟨rfl, rfl⟩) rfl (by first | decide | exact qbA rfl | simp)) ?_
 refine zab ?_
 refine zah ?_
 refine zaa 1 rfl ?_
 refine za rfl (zaj [] [] [] rfl (ev1 rfl) (ec (ev1 rfl) (ec (ev1 rfl) (ec (ev1 rfl) en))) rfl rfl (yG b (by omega) 8 (by omega)) rfl rfl rfl rfl rfl rfl) ?_
 refine zaa 2 rfl ?_
 refine za rfl (zaj [] [] [] rfl (ev1 rfl) (ec (ev1 rfl) (ec (ev1 rfl) en)) rfl rfl (gT (kG 8 (b.drop 8))) rfl rfl rfl rfl rfl rfl) ?_
 refine za rfl (zam rfl vO (ev1 rfl)) ?_
 refine zas rfl (kJ rfl qZ (ev1 rfl) (ev1 rfl) (fun s v h => by cases h <;> exact ⟨rfl, rfl⟩) rfl (by first | decide | exact qbA rfl | simp)) ?_
 refine zab ?_
 refine zah ?_
 refine zaa 1 rfl ?_
 refine zab ?_
 refine zah ?_
 refine zaa 1 rfl ?_
 refine za rfl (yi (i := 16) rfl qG (ev1 rfl) (jf (ev1 rfl)) (fun _ => by omega) (fun _ => by omega) (fun _ => rfl)) ?_
 refine zaa 1 rfl ?_
 refine zab ?_
 refine zah ?_
 refine zaa 1 rfl ?_
 refine za rfl (zaj [] [] [] rfl (ev1 rfl) (ec (ev1 rfl) en) rfl rfl (Kp (b.drop 16) hk1 (by omega) e hv) rfl rfl rfl rfl rfl rfl) ?_
 refine zaa 4 rfl ?_
 refine za rfl (zam rfl wz (ev1 rfl)) ?_
 refine zas rfl (yE rfl gR (ev1 rfl) (vg (ev1 rfl) (Wk.vagg _)) rfl rfl rfl rfl rfl) ?_
 refine zaa 1 rfl ?_
 refine zas rfl (qK rfl qX (ev1 rfl) (ev1 rfl) rfl) ?_
 refine zab ?_
 refine zah ?_
 refine za rfl (qB rfl qX (ev1 rfl) rfl rfl) ?_
 refine za rfl (qm rfl (ev1 rfl) (ev1 rfl)) ?_
 refine za rfl (qB rfl qX (ev1 rfl) rfl rfl) ?_
 refine ky rfl (qw [] [] [] rfl (ev1 rfl) (ec (ev1 rfl) (ec (ev1 rfl) en)) rfl rfl (jQ _ _ (by simpa using he)) rfl rfl rfl rfl rfl rfl) rfl ?_
 refine jH (qQ [0, 1] [] rfl rfl rfl (wP _ _ z9 _ _ (by first | decide | assumption)) rfl rfl rfl rfl rfl) ?_
 refine qx (rs2 rfl (y0 vP rfl rfl rfl) (js qX rfl rfl rfl)) rfl ?_
 rfl
theorem XR (b : List Int) (hl : b.length ≤ 30000) (hi : isB b) (h16 : 16 ≤ b.length) (v : Vec) (r : List Int) (hv : vW (b.drop 16) = .ok v r) (hx : XB r) : DFun Tryz.prog 17 [.slf 1 (b).length ((b).flatMap uc8)] [] (.tup [.agg ([.int .i64 0, .int .i64 0, .slice none 0 0, .int .u64 0, .int .u64 0, .int .u64 0, .int .u64 0, .int .u64 0, .int .u64 0, .int .u64 0, .int .u64 0, .int .u64 0, .int .u64 0, .int .u64 0].map D.val), .val (.int .i64 310)]) [] := by
 have hld : (b.drop 16).length = b.length - 16 := qbZ
 have hk1 : okL (b.drop 16) := ⟨jE hi 16, by omega⟩
 obtain ⟨hr64, hre, hrl, hvB, hv9, hrv⟩ := wQ hk1 hv
 have hir : isB r := by rw [hre]; exact jE (jE hi 16) 64
 refine qo (N := 57) 0 (by kernel_rfl) Tryz.func17 rfl rfl rfl (by simp only [fr0, qbs, qbt]; exact rfl) rfl fun s0 hs0 => ?_
 refine qz rfl hs0 ?_
 refine zao 2 ?_
 refine zac ?_
 refine zak rfl (zaq 0 rfl xN rfl) ?_
 refine zak rfl (zaq 1 rfl jT rfl) ?_
 refine zab ?_
 refine qr (l0 := [_]) rfl rfl rfl rfl rfl hs0 ?_
 refine za rfl (qV rfl en (ec (ev1 rfl) (ec (ev1 rfl) en))) ?_
 refine zab ⟨_, _, _, 2, ev1 rfl, qbK hs0 (by decide), rfl, ?_⟩
 have hs1 : s0.M.length ≤ 2 := qbK hs0 (by decide)
 refine qy rfl hs0 ?_
 refine zae ?_
 refine jg 0 yZ rfl rfl (by simp only [qbD, qbF, zaf, zag, List.map]; exact rfl) ?_
 refine zac ?_
 refine zaa 1 rfl ?_
 refine za rfl (zaj [] [] [] rfl (ev1 rfl) (ec (ev1 rfl) (ec (ev1 rfl) (ec (ev1 rfl) en))) rfl rfl (yG b (by omega) 0 (by omega)) rfl rfl rfl rfl rfl rfl) ?_
 refine zaa 2 rfl ?_
 refine za rfl (zaj [] [] [] rfl (ev1 rfl) (ec (ev1 rfl) (ec (ev1 rfl) en)) rfl rfl (gT (kG 8 b)) rfl rfl rfl rfl rfl rfl) ?_
 refine za rfl (zam rfl vN (ev1 rfl)) ?_
 refine zas rfl (kJ rfl qZ (ev1 rfl) (ev1 rfl) (fun s v h => by cases h <;> exact ⟨rfl, rfl⟩) rfl (by first | decide | exact qbA rfl | simp)) ?_
 refine zab ?_
 refine zah ?_
 refine zaa 1 rfl ?_
 refine za rfl (zaj [] [] [] rfl (ev1 rfl) (ec (ev1 rfl) (ec (ev1 rfl) (ec (ev1 rfl) en))) rfl rfl (yG b (by omega) 8 (by omega)) rfl rfl rfl rfl rfl rfl) ?_
 refine zaa 2 rfl ?_
 refine za rfl (zaj [] [] [] rfl (ev1 rfl) (ec (ev1 rfl) (ec (ev1 rfl) en)) rfl rfl (gT (kG 8 (b.drop 8))) rfl rfl rfl rfl rfl rfl) ?_
 refine za rfl (zam rfl vO (ev1 rfl)) ?_
 refine zas rfl (kJ rfl qZ (ev1 rfl) (ev1 rfl) (fun s v h => by cases h <;> exact ⟨rfl, rfl⟩) rfl (by first | decide | exact qbA rfl | simp)) ?_
 refine zab ?_
 refine zah ?_
 refine zaa 1 rfl ?_
 refine zab ?_
 refine zah ?_
 refine zaa 1 rfl ?_
 refine za rfl (yi (i := 16) rfl qG (ev1 rfl) (jf (ev1 rfl)) (fun _ => by omega) (fun _ => by omega) (fun _ => rfl)) ?_
 refine zaa 1 rfl ?_
 refine zab ?_
 refine zah ?_
 refine zaa 1 rfl ?_
 refine za rfl (zaj [] [] [] rfl (ev1 rfl) (ec (ev1 rfl) en) rfl rfl (y7 (b.drop 16) hk1 (by omega) v r hv (by omega)) rfl rfl rfl rfl rfl rfl) ?_
 refine zaa 4 rfl ?_
 refine za rfl (zam rfl wz (ev1 rfl)) ?_
 refine zas rfl (yE rfl gR (ev1 rfl) (vg (ev1 rfl) (Wk.vagg _)) rfl rfl rfl rfl rfl) ?_
 refine zaa 1 rfl ?_
 refine zas rfl (qK rfl qX (ev1 rfl) (ev1 rfl) rfl) ?_
 refine zab ?_
 refine zah ?_
 refine za rfl (qB rfl qX (ev1 rfl) rfl rfl) ?_
 refine za rfl (qm rfl (ev1 rfl) (ev1 rfl)) ?_
 refine za rfl (qB rfl qX (ev1 rfl) rfl rfl) ?_
 refine za rfl (zaj [] [] [] rfl (ev1 rfl) (ec (ev1 rfl) (ec (ev1 rfl) en)) rfl rfl (qR _ _ (rfl)) rfl rfl rfl rfl rfl rfl) ?_
 refine zab ?_
 refine zah ?_
 refine zaa 2 rfl ?_
 refine za rfl ((yi (i := 64) rfl qG (ev1 rfl) (jf (ev1 rfl)) (fun _ => by omega) (fun _ => by omega) (fun _ => rfl)).cast (d' := .slf 1 (r).length ((r).flatMap uc8)) (by rw [hre])) ?_
 refine zaa 1 rfl ?_
 refine zab ?_
 refine zah ?_
 refine zaa 1 rfl ?_
 refine za rfl (zaj [] [] [] rfl (ev1 rfl) (ec (ev1 rfl) en) rfl rfl (qa3 r (by omega) hir hx) rfl rfl rfl rfl rfl rfl) ?_
 refine zaa 4 rfl ?_
 refine za rfl (zam rfl uv (ev1 rfl)) ?_
 refine zas rfl (yE rfl vV (ev1 rfl) (vg (ev1 rfl) (Wk.vagg _)) rfl rfl rfl rfl rfl) ?_
 refine zaa 1 rfl ?_
 refine zas rfl (qK rfl qX (ev1 rfl) (ev1 rfl) rfl) ?_
 refine zab ?_
 refine zah ?_
 refine za rfl (qB rfl qX (ev1 rfl) rfl rfl) ?_
 refine za rfl (qm rfl (ev1 rfl) (ev1 rfl)) ?_
 refine za rfl (qB rfl qX (ev1 rfl) rfl rfl) ?_
 refine ky rfl (qw [] [] [] rfl (ev1 rfl) (ec (ev1 rfl) (ec (ev1 rfl) en)) rfl rfl (jQ _ _ (rfl)) rfl rfl rfl rfl rfl rfl) rfl ?_
 refine jH (qQ [0, 1] [] rfl rfl rfl (wP _ _ v _ _ (by first | decide | assumption)) rfl rfl rfl rfl rfl) ?_
 refine qx (rs2 rfl (y0 vP rfl rfl rfl) (js qX rfl rfl rfl)) rfl ?_
 rfl
theorem XS (b : List Int) (hl : b.length ≤ 30000) (hi : isB b) (h16 : 16 ≤ b.length) (v : Vec) (r : List Int) (hv : vW (b.drop 16) = .ok v r) (n : Nat) (h2 : 0 + 2 ≤ r.length) (hm : gW (bAt r 0) (bAt r 1) = true) (hn : bAt r 0 * bAt r 1 = (n : Int)) (us : List TL) (q : Nat) (h0 : gg kz r n [] 2 = some (us, q)) (hbad : ¬ (q = r.length ∧ uw (⟨bAt r 0, bAt r 1, us, kG 8 b, kG 8 (b.drop 8), v⟩ : SnM) = true)) : DFun Tryz.prog 17 [.slf 1 (b).length ((b).flatMap uc8)] [] (.tup [.agg ([.int .i64 0, .int .i64 0, .slice none 0 0, .int .u64 0, .int .u64 0, .int .u64 0, .int .u64 0, .int .u64 0, .int .u64 0, .int .u64 0, .int .u64 0, .int .u64 0, .int .u64 0, .int .u64 0].map D.val), .val (.int .i64 310)]) [] := by
 have hld : (b.drop 16).length = b.length - 16 := qbZ
 have hk1 : okL (b.drop 16) := ⟨jE hi 16, by omega⟩
 obtain ⟨hr64, hre, hrl, hvB, hv9, hrv⟩ := wQ hk1 hv
 have hir : isB r := by rw [hre]; exact jE (jE hi 16) 64
 refine qo (N := 57) 0 (by kernel_rfl) Tryz.func17 rfl rfl rfl (by simp only [fr0, qbs, qbt]; exact rfl) rfl fun s0 hs0 => ?_
 refine qz rfl hs0 ?_
 refine zao 2 ?_
 refine zac ?_
 refine zak rfl (zaq 0 rfl xN rfl) ?_
 refine zak rfl (zaq 1 rfl jT rfl) ?_
 refine zab ?_
 refine qr (l0 := [_]) rfl rfl rfl rfl rfl hs0 ?_
 refine za rfl (qV rfl en (ec (ev1 rfl) (ec (ev1 rfl) en))) ?_
 refine zab ⟨_, _, _, 2, ev1 rfl, qbK hs0 (by decide), rfl, ?_⟩
 have hs1 : s0.M.length ≤ 2 := qbK hs0 (by decide)
 refine qy rfl hs0 ?_
 refine zae ?_
 refine jg 0 yZ rfl rfl (by simp only [qbD, qbF, zaf, zag, List.map]; exact rfl) ?_
 refine zac ?_
 refine zaa 1 rfl ?_
 refine za rfl (zaj [] [] [] rfl (ev1 rfl) (ec (ev1 rfl) (ec (ev1 rfl) (ec (ev1 rfl) en))) rfl rfl (yG b (by omega) 0 (by omega)) rfl rfl rfl rfl rfl rfl) ?_
 refine zaa 2 rfl ?_
 refine za rfl (zaj [] [] [] rfl (ev1 rfl) (ec (ev1 rfl) (ec (ev1 rfl) en)) rfl rfl (gT (kG 8 b)) rfl rfl rfl rfl rfl rfl) ?_
 refine za rfl (zam rfl vN (ev1 rfl)) ?_
 refine zas rfl (kJ rfl qZ (ev1 rfl) (ev1 rfl) (fun s v h => by cases h <;> exact ⟨rfl, rfl⟩) rfl (by first | decide | exact qbA rfl | simp)) ?_
 refine zab ?_
 refine zah ?_
 refine zaa 1 rfl ?_
 refine za rfl (zaj [] [] [] rfl (ev1 rfl) (ec (ev1 rfl) (ec (ev1 rfl) (ec (ev1 rfl) en))) rfl rfl (yG b (by omega) 8 (by omega)) rfl rfl rfl rfl rfl rfl) ?_
 refine zaa 2 rfl ?_
 refine za rfl (zaj [] [] [] rfl (ev1 rfl) (ec (ev1 rfl) (ec (ev1 rfl) en)) rfl rfl (gT (kG 8 (b.drop 8))) rfl rfl rfl rfl rfl rfl) ?_
 refine za rfl (zam rfl vO (ev1 rfl)) ?_
 refine zas rfl (kJ rfl qZ (ev1 rfl) (ev1 rfl) (fun s v h => by cases h <;> exact ⟨rfl, rfl⟩) rfl (by first | decide | exact qbA rfl | simp)) ?_
 refine zab ?_
 refine zah ?_
 refine zaa 1 rfl ?_
 refine zab ?_
 refine zah ?_
 refine zaa 1 rfl ?_
 refine za rfl (yi (i := 16) rfl qG (ev1 rfl) (jf (ev1 rfl)) (fun _ => by omega) (fun _ => by omega) (fun _ => rfl)) ?_
 refine zaa 1 rfl ?_
 refine zab ?_
 refine zah ?_
 refine zaa 1 rfl ?_
 refine za rfl (zaj [] [] [] rfl (ev1 rfl) (ec (ev1 rfl) en) rfl rfl (y7 (b.drop 16) hk1 (by omega) v r hv (by omega)) rfl rfl rfl rfl rfl rfl) ?_
 refine zaa 4 rfl ?_
 refine za rfl (zam rfl wz (ev1 rfl)) ?_
 refine zas rfl (yE rfl gR (ev1 rfl) (vg (ev1 rfl) (Wk.vagg _)) rfl rfl rfl rfl rfl) ?_
 refine zaa 1 rfl ?_
 refine zas rfl (qK rfl qX (ev1 rfl) (ev1 rfl) rfl) ?_
 refine zab ?_
 refine zah ?_
 refine za rfl (qB rfl qX (ev1 rfl) rfl rfl) ?_
 refine za rfl (qm rfl (ev1 rfl) (ev1 rfl)) ?_
 refine za rfl (qB rfl qX (ev1 rfl) rfl rfl) ?_
 refine za rfl (zaj [] [] [] rfl (ev1 rfl) (ec (ev1 rfl) (ec (ev1 rfl) en)) rfl rfl (qR _ _ (rfl)) rfl rfl rfl rfl rfl rfl) ?_
 refine zab ?_
 refine zah ?_
 refine zaa 2 rfl ?_
 refine za rfl ((yi (i := 64) rfl qG (ev1 rfl) (jf (ev1 rfl)) (fun _ => by omega) (fun _ => by omega) (fun _ => rfl)).cast (d' := .slf 1 (r).length ((r).flatMap uc8)) (by rw [hre])) ?_
 refine zaa 1 rfl ?_
 refine zab ?_
 refine zah ?_
 refine zaa 1 rfl ?_
 refine za rfl (zaj [] [] [] rfl (ev1 rfl) (ec (ev1 rfl) en) rfl rfl (Aw r (by omega) hir n h2 hm hn us q h0) rfl rfl rfl rfl rfl rfl) ?_
 refine zaa 4 rfl ?_
 refine za rfl (zam rfl uv (ev1 rfl)) ?_
 refine zas rfl (yE rfl vV (ev1 rfl) (ev1 rfl) rfl rfl rfl rfl rfl) ?_
 refine zaa 1 rfl ?_
 refine zas rfl (qK rfl qX (ev1 rfl) (ev1 rfl) rfl) ?_
 refine zab ?_
 refine zah ?_
 refine za rfl (qB rfl qX (ev1 rfl) rfl rfl) ?_
 refine za rfl (qm rfl (ev1 rfl) (ev1 rfl)) ?_
 refine za rfl (qB rfl qX (ev1 rfl) rfl rfl) ?_
 refine za rfl (zaj [] [] [] rfl (ev1 rfl) (ec (ev1 rfl) (ec (ev1 rfl) en)) rfl rfl (qR _ _ (rfl)) rfl rfl rfl rfl rfl rfl) ?_
 refine zab ?_
 refine zah ?_
 refine zaa 2 rfl ?_
 refine za rfl (qE rfl qG (ev1 rfl)) ?_
 refine za rfl (qm rfl (ev1 rfl) (ev1 rfl)) ?_
 refine zaa 1 rfl ?_
 refine zai (qn rfl rfl rfl) rfl rfl rfl (qb rfl vP (ev1 rfl) rfl rfl) ?_
 refine zai (qn rfl rfl rfl) rfl rfl rfl (zaj [] [] [] rfl (ev1 rfl) (ec (ev2 rfl) en) rfl rfl (Ka (⟨bAt r 0, bAt r 1, us, kG 8 b, kG 8 (b.drop 8), v⟩ : SnM)) rfl rfl rfl rfl rfl rfl) ?_
 refine zai (qn rfl rfl rfl) rfl rfl rfl (qm rfl (ev2 rfl) (ev1 rfl)) ?_
 refine za rfl (qC rfl (ev1 rfl) (ev3 rfl id)) ?_
 refine ky rfl (qw [] [] [] rfl (ev1 rfl) (ec (ev1 rfl) (ec (ev1 rfl) en)) rfl rfl (jQ _ _ (by rw [Ys _ (by decide)]; rw [Bool.eq_false_iff]; intro hc; rw [qbu] at hc; exact hbad ⟨by have := hc.1; simp at this; omega, hc.2⟩)) rfl rfl rfl rfl rfl rfl) rfl ?_
 refine jH (qQ [0, 1] [] rfl rfl rfl (WB (⟨bAt r 0, bAt r 1, us, kG 8 b, kG 8 (b.drop 8), v⟩ : SnM) _ _ (by first | decide | assumption)) rfl rfl rfl rfl rfl) ?_
 refine qx (rs2 rfl (y0 vP rfl rfl rfl) (js qX rfl rfl rfl)) rfl ?_
 rfl
theorem HD (b : List Int) (hl : b.length ≤ 30000) (hi : isB b) (h16 : 16 ≤ b.length) (v : Vec) (r : List Int) (hv : vW (b.drop 16) = .ok v r) (n : Nat) (h2 : 0 + 2 ≤ r.length) (hm : gW (bAt r 0) (bAt r 1) = true) (hn : bAt r 0 * bAt r 1 = (n : Int)) (us : List TL) (q : Nat) (h0 : gg kz r n [] 2 = some (us, q)) (hq : q = r.length) (hk : uw (⟨bAt r 0, bAt r 1, us, kG 8 b, kG 8 (b.drop 8), v⟩ : SnM) = true) : DFun Tryz.prog 17 [.slf 1 (b).length ((b).flatMap uc8)] [] (.tup [.agg (snL (⟨bAt r 0, bAt r 1, us, kG 8 b, kG 8 (b.drop 8), v⟩ : SnM)), .val (.int .i64 0)]) [] := by
 have hld : (b.drop 16).length = b.length - 16 := qbZ
 have hk1 : okL (b.drop 16) := ⟨jE hi 16, by omega⟩
 obtain ⟨hr64, hre, hrl, hvB, hv9, hrv⟩ := wQ hk1 hv
 have hir : isB r := by rw [hre]; exact jE (jE hi 16) 64
 refine qo (N := 57) 0 (by kernel_rfl) Tryz.func17 rfl rfl rfl (by simp only [fr0, qbs, qbt]; exact rfl) rfl fun s0 hs0 => ?_
 refine qz rfl hs0 ?_
 refine zao 2 ?_
 refine zac ?_
 refine zak rfl (zaq 0 rfl xN rfl) ?_
 refine zak rfl (zaq 1 rfl jT rfl) ?_
 refine zab ?_
 refine qr (l0 := [_]) rfl rfl rfl rfl rfl hs0 ?_
 refine za rfl (qV rfl en (ec (ev1 rfl) (ec (ev1 rfl) en))) ?_
 refine zab ⟨_, _, _, 2, ev1 rfl, qbK hs0 (by decide), rfl, ?_⟩
 have hs1 : s0.M.length ≤ 2 := qbK hs0 (by decide)
 refine qy rfl hs0 ?_
 refine zae ?_
 refine jg 0 yZ rfl rfl (by simp only [qbD, qbF, zaf, zag, List.map]; exact rfl) ?_
 refine zac ?_
 refine zaa 1 rfl ?_
 refine za rfl (zaj [] [] [] rfl (ev1 rfl) (ec (ev1 rfl) (ec (ev1 rfl) (ec (ev1 rfl) en))) rfl rfl (yG b (by omega) 0 (by omega)) rfl rfl rfl rfl rfl rfl) ?_
 refine zaa 2 rfl ?_
 refine za rfl (zaj [] [] [] rfl (ev1 rfl) (ec (ev1 rfl) (ec (ev1 rfl) en)) rfl rfl (gT (kG 8 b)) rfl rfl rfl rfl rfl rfl) ?_
 refine za rfl (zam rfl vN (ev1 rfl)) ?_
 refine zas rfl (kJ rfl qZ (ev1 rfl) (ev1 rfl) (fun s v h => by cases h <;> exact ⟨rfl, rfl⟩) rfl (by first | decide | exact qbA rfl | simp)) ?_
 refine zab ?_
 refine zah ?_
 refine zaa 1 rfl ?_
 refine za rfl (zaj [] [] [] rfl (ev1 rfl) (ec (ev1 rfl) (ec (ev1 rfl) (ec (ev1 rfl) en))) rfl rfl (yG b (by omega) 8 (by omega)) rfl rfl rfl rfl rfl rfl) ?_
 refine zaa 2 rfl ?_
 refine za rfl (zaj [] [] [] rfl (ev1 rfl) (ec (ev1 rfl) (ec (ev1 rfl) en)) rfl rfl (gT (kG 8 (b.drop 8))) rfl rfl rfl rfl rfl rfl) ?_
 refine za rfl (zam rfl vO (ev1 rfl)) ?_
 refine zas rfl (kJ rfl qZ (ev1 rfl) (ev1 rfl) (fun s v h => by cases h <;> exact ⟨rfl, rfl⟩) rfl (by first | decide | exact qbA rfl | simp)) ?_
 refine zab ?_
 refine zah ?_
 refine zaa 1 rfl ?_
 refine zab ?_
 refine zah ?_
 refine zaa 1 rfl ?_
 refine za rfl (yi (i := 16) rfl qG (ev1 rfl) (jf (ev1 rfl)) (fun _ => by omega) (fun _ => by omega) (fun _ => rfl)) ?_
 refine zaa 1 rfl ?_
 refine zab ?_
 refine zah ?_
 refine zaa 1 rfl ?_
 refine za rfl (zaj [] [] [] rfl (ev1 rfl) (ec (ev1 rfl) en) rfl rfl (y7 (b.drop 16) hk1 (by omega) v r hv (by omega)) rfl rfl rfl rfl rfl rfl) ?_
 refine zaa 4 rfl ?_
 refine za rfl (zam rfl wz (ev1 rfl)) ?_
 refine zas rfl (yE rfl gR (ev1 rfl) (vg (ev1 rfl) (Wk.vagg _)) rfl rfl rfl rfl rfl) ?_
 refine zaa 1 rfl ?_
 refine zas rfl (qK rfl qX (ev1 rfl) (ev1 rfl) rfl) ?_
 refine zab ?_
 refine zah ?_
 refine za rfl (qB rfl qX (ev1 rfl) rfl rfl) ?_
 refine za rfl (qm rfl (ev1 rfl) (ev1 rfl)) ?_
 refine za rfl (qB rfl qX (ev1 rfl) rfl rfl) ?_
 refine za rfl (zaj [] [] [] rfl (ev1 rfl) (ec (ev1 rfl) (ec (ev1 rfl) en)) rfl rfl (qR _ _ (rfl)) rfl rfl rfl rfl rfl rfl) ?_
 refine zab ?_
 refine zah ?_
 refine zaa 2 rfl ?_
 refine za rfl ((yi (i := 64) rfl qG (ev1 rfl) (jf (ev1 rfl)) (fun _ => by omega) (fun _ => by omega) (fun _ => rfl)).cast (d' := .slf 1 (r).length ((r).flatMap uc8)) (by rw [hre])) ?_
 refine zaa 1 rfl ?_
 refine zab ?_
 refine zah ?_
 refine zaa 1 rfl ?_
 refine za rfl (zaj [] [] [] rfl (ev1 rfl) (ec (ev1 rfl) en) rfl rfl (Aw r (by omega) hir n h2 hm hn us q h0) rfl rfl rfl rfl rfl rfl) ?_
 refine zaa 4 rfl ?_
 refine za rfl (zam rfl uv (ev1 rfl)) ?_
 refine zas rfl (yE rfl vV (ev1 rfl) (ev1 rfl) rfl rfl rfl rfl rfl) ?_
 refine zaa 1 rfl ?_
 refine zas rfl (qK rfl qX (ev1 rfl) (ev1 rfl) rfl) ?_
 refine zab ?_
 refine zah ?_
 refine za rfl (qB rfl qX (ev1 rfl) rfl rfl) ?_
 refine za rfl (qm rfl (ev1 rfl) (ev1 rfl)) ?_
 refine za rfl (qB rfl qX (ev1 rfl) rfl rfl) ?_
 refine za rfl (zaj [] [] [] rfl (ev1 rfl) (ec (ev1 rfl) (ec (ev1 rfl) en)) rfl rfl (qR _ _ (rfl)) rfl rfl rfl rfl rfl rfl) ?_
 refine zab ?_
 refine zah ?_
 refine zaa 2 rfl ?_
 refine za rfl (qE rfl qG (ev1 rfl)) ?_
 refine za rfl (qm rfl (ev1 rfl) (ev1 rfl)) ?_
 refine zaa 1 rfl ?_
 refine zai (qn rfl rfl rfl) rfl rfl rfl (qb rfl vP (ev1 rfl) rfl rfl) ?_
 refine zai (qn rfl rfl rfl) rfl rfl rfl (zaj [] [] [] rfl (ev1 rfl) (ec (ev2 rfl) en) rfl rfl (Ka (⟨bAt r 0, bAt r 1, us, kG 8 b, kG 8 (b.drop 8), v⟩ : SnM)) rfl rfl rfl rfl rfl rfl) ?_
 refine zai (qn rfl rfl rfl) rfl rfl rfl (qm rfl (ev2 rfl) (ev1 rfl)) ?_
 refine za rfl (qC rfl (ev1 rfl) (ev3 rfl id)) ?_
 refine za rfl (zaj [] [] [] rfl (ev1 rfl) (ec (ev1 rfl) (ec (ev1 rfl) en)) rfl rfl (qR _ _ (by rw [Ys _ (by decide), hk]; simp; omega)) rfl rfl rfl rfl rfl rfl) ?_
 refine zab ?_
 refine zah ?_
 refine za rfl (qb rfl vP (ev1 rfl) rfl rfl) ?_
 refine zas rfl (wK rfl vP (ev1 rfl) (ev1 rfl) rfl rfl rfl rfl) ?_
 refine zas rfl (qK rfl qX (ev1 rfl) (ev1 rfl) rfl) ?_
 refine zab ?_
 refine qa ?_
 refine jH (kL [0, 1] [] rfl rfl (Yy (⟨bAt r 0, bAt r 1, us, kG 8 b, kG 8 (b.drop 8), v⟩ : SnM) _) rfl rfl rfl rfl rfl) ?_
 refine qx (rs2 rfl (y0 vP rfl rfl rfl) (js qX rfl rfl rfl)) rfl ?_
 rfl
end Go.Proofs.YtofklkbfkoliiaaGreat
namespace Go.Proofs.YtofklkbfkoliiaaGreat
set_option linter.unusedVariables false
set_option linter.unusedSimpArgs false
open Go.RowKit
attribute [local irreducible] gg
theorem Vr {b : List Int} (hi : isB b) (h : 8 ≤ b.length) : b = k7 8 (kG 8 b) ++ b.drop 8 ∧ 0 ≤ kG 8 b ∧ kG 8 b < (256 ^ 8 : Nat) := by
 have e1 := xn hi (w := 8) (by decide) h
 have e2 : tN 8 b = .ok (jC (b.take 8) 0 : Int) (b.drop 8) := by
  unfold tN tkN
  rw [if_neg (by omega)]
 obtain ⟨g1, g2⟩ := (cdN 110 8).bwd b _ _ hi e2
 rw [← e1] at g1 g2
 exact ⟨g1, g2.1, g2.2⟩
theorem Vs {n : Int} (h : 0 ≤ n ∧ n < (256 ^ 8 : Nat)) {rest : List Int} (hr : isB rest) : kG 8 (k7 8 n ++ rest) = n := by
 have hl := gh 8 n
 have e1 := xn (l := k7 8 n ++ rest) (isB_app.2 ⟨wt 8 n, hr⟩) (w := 8) (by decide) (by rw [qbz]; omega)
 have e2 := (cdN 110 8).fwd n rest h
 unfold tkN at e2
 rw [if_neg (by rw [qbz]; omega)] at e2
 have e3 : ((jC ((k7 8 n ++ rest).take 8) 0 : Nat) : Int) = n := by
  injection e2
 rw [e1, e3]
theorem Kc {v : Vec} : isB (vL v) := by
 unfold vL wq
 intro x hx
 obtain ⟨n, _, h⟩ := List.mem_flatMap.1 hx
 exact wt 8 n x h
theorem u9 (s : SnM) : gj s = k7 8 s.f ++ (k7 8 s.st ++ (vL s.v ++ kK s.w s.h s.ts)) := by
 unfold gj Vq
 simp [qbY]
theorem WC {s : SnM} (hr : jl s.w s.h s.ts = true) (hg : Vg s.ts) : isB (gj s) := by
 rw [u9]
 exact isB_app.2 ⟨wt _ _, isB_app.2 ⟨wt _ _, isB_app.2 ⟨Kc, XA hr hg⟩⟩⟩
structure RdS (b : List Int) (s : SnM) : Prop where
 ok : uw s = true
 f0 : 0 ≤ s.f
 eq : b = gj s
 v9 : ∀ i, 9 ≤ i → s.v i = 0
theorem XT {b : List Int} (hl : b.length ≤ 30000) (hi : isB b) (hno : ∀ s, ¬ RdS b s) : DFun Tryz.prog 17 [.slf 1 (b).length ((b).flatMap uc8)] [] (.tup [.agg ([.int .i64 0, .int .i64 0, .slice none 0 0, .int .u64 0, .int .u64 0, .int .u64 0, .int .u64 0, .int .u64 0, .int .u64 0, .int .u64 0, .int .u64 0, .int .u64 0, .int .u64 0, .int .u64 0].map D.val), .val (.int .i64 310)]) [] := by
 by_cases h8 : 8 ≤ b.length
 rotate_left
 ·exact XO b hl hi (by omega)
 by_cases h16 : 16 ≤ b.length
 rotate_left
 ·exact XP b hl hi h8 (by omega)
 have hld : (b.drop 16).length = b.length - 16 := qbZ
 have hk1 : okL (b.drop 16) := ⟨jE hi 16, by omega⟩
 cases hv : vW (b.drop 16) with
 | err e =>
  refine XQ b hl hi h16 e ?_ hv
  rcases Er.V (b.drop 16) e hv with h | h <;> subst h <;> decide
 | ok v r =>
  obtain ⟨hr64, hre, hrl, hvB, hv9, hrv⟩ := wQ hk1 hv
  have hir : isB r := by rw [hre]; exact jE (jE hi 16) 64
  by_cases hx : XB r
  ·exact XR b hl hi h16 v r hv hx
  ·unfold XB at hx
   obtain ⟨h2, hm, h0⟩ := Classical.not_not.1 hx
   obtain ⟨⟨us, q⟩, h0⟩ := Option.isSome_iff_exists.1 h0
   refine XS b hl hi h16 v r hv _ h2 hm (XC hm).1 us q h0 fun hb => hno (⟨bAt r 0, bAt r 1, us, kG 8 b, kG 8 (b.drop 8), v⟩ : SnM) ?_
   obtain ⟨hq, hk⟩ := hb
   obtain ⟨g1, g2, g3⟩ := Vr hi h8
   obtain ⟨k1, k2, k3⟩ := Vr (jE hi 8) (show 8 ≤ (b.drop 8).length by rw [qbZ]; omega)
   refine ⟨hk, g2, ?_, hv9⟩
   have hc := Wz (by omega) h0
   rw [hq, qch] at hc
   rw [u9]
   show b = k7 8 (kG 8 b) ++ (k7 8 (kG 8 (b.drop 8)) ++ (vL v ++ kK (bAt r 0) (bAt r 1) us))
   rw [← hc, ← hrv]
   have e16 : b.drop 16 = (b.drop 8).drop 8 := by rw [List.drop_drop]
   rw [e16, ← k1]
   exact g1
theorem Qq {s : SnM} (hk : uw s = true) (hf : 0 ≤ s.f) (hi : isB (gj s)) (hv9 : ∀ i, 9 ≤ i → s.v i = 0) : DFun Tryz.prog 17 [.slf 1 ((gj s)).length (((gj s)).flatMap uc8)] [] (.tup [.agg (snL s), .val (.int .i64 0)]) [] := by
 obtain ⟨hr, hfs, hst, hvB⟩ := snOk_iff.1 hk
 obtain ⟨q1, q2, q3, q4⟩ := Kb hr
 have hcv : isB (kK s.w s.h s.ts) := by
  have h1 := hi
  rw [u9] at h1
  exact (isB_app.1 (isB_app.1 (isB_app.1 h1).2).2).2
 obtain ⟨w, h, ts, f, st, v⟩ := s
 dsimp only at *
 have hb1 : (k7 8 f).length = 8 := gh 8 f
 have hb2 : (k7 8 st).length = 8 := gh 8 st
 have e0 := u9 ⟨w, h, ts, f, st, v⟩
 dsimp only at e0
 have e8 : (gj ⟨w, h, ts, f, st, v⟩).drop 8 = k7 8 st ++ (vL v ++ kK w h ts) := by rw [e0]; exact List.drop_left' hb1
 have e16 : (gj ⟨w, h, ts, f, st, v⟩).drop 16 = vL v ++ kK w h ts := by
  rw [show 16 = 8 + 8 from rfl, ← List.drop_drop, e8]
  exact List.drop_left' hb2
 have n1 : kG 8 (gj ⟨w, h, ts, f, st, v⟩) = f := by
  rw [e0]
  exact Vs ⟨hf, by rw [e8N]; omega⟩ (isB_app.2 ⟨wt _ _, isB_app.2 ⟨Kc, hcv⟩⟩)
 have n2 : kG 8 ((gj ⟨w, h, ts, f, st, v⟩).drop 8) = st := by
  rw [e8]
  exact Vs ⟨by omega, by rw [e8N]; omega⟩ (isB_app.2 ⟨Kc, hcv⟩)
 have hv : vW ((gj ⟨w, h, ts, f, st, v⟩).drop 16) = .ok v (kK w h ts) := by
  rw [e16]
  exact (Ay 110 290).fwd v _ ⟨hvB, hv9⟩
 obtain ⟨g1, g2, g3, _⟩ := J1 hr
 have hbk := Wy kz w h ts []
 have en : kK w h ts ++ [] = kK w h ts := qci _
 rw [show (w :: h :: qW kz [] ts) ++ [] = kK w h ts ++ [] from rfl, en] at hbk
 have hy := HD (gj ⟨w, h, ts, f, st, v⟩) (by omega) hi (by omega) v (kK w h ts) hv ts.length (by omega) g3 g1 ts _ hbk rfl (by rw [n1, n2]; exact hk)
 rw [n1, n2] at hy
 exact hy
end Go.Proofs.YtofklkbfkoliiaaGreat
namespace Go.Proofs.YtofklkbfkoliiaaGreat
set_option linter.unusedVariables false
set_option linter.unusedSimpArgs false
open Go.RowKit
attribute [local irreducible] gg kU qF gj Yu kH yq gi Yw uw kG tkN
def wS : SnM := ⟨1, 1, [zT], 3, 5, z9⟩
def WD : List Int := qbH 300 0
def wp0 : PcM := ⟨1, 0, 2, qbH 256 0⟩
def wp1 : PcM := ⟨1, 1, 2, qbH 44 0⟩
def wx : PcM := ⟨2, 0, 3, qbH 256 0⟩
def wq1 : PiM := ⟨1, 2, [[], qbH 44 0]⟩
def wq2 : PiM := ⟨1, 2, [qbH 256 0, qbH 44 0]⟩
def wq3 : PiM := ⟨2, 3, [qbH 256 0, [], []]⟩
theorem qbd : Yu 1 WD = [wp0, wp1] := by kernel_rfl
theorem HE : qF [wp1, wp1] (zPi, 0) = (wq1, 1) := by kernel_rfl
theorem HF : kU wq1 wp0 = (0, wq2) := by kernel_rfl
theorem HG : kU wq2 wx = (0, wq3) := by kernel_rfl
theorem HH : kU wq3 wp0 = (241, wq3) := by kernel_rfl
theorem wk_q1 : kH wq1 = true := by kernel_rfl
theorem wk_q2 : kH wq2 = true := by kernel_rfl
theorem wk_q3 : kH wq3 = true := by kernel_rfl
theorem wkn1 : yq wq1 = (0, true) := by kernel_rfl
theorem wkn3 : yq wq3 = (1, true) := by kernel_rfl
theorem wk_w1 : gi wq1 = false := by kernel_rfl
theorem wk_w2 : gi wq2 = true := by kernel_rfl
theorem XU : uw wS = true := by kernel_rfl
theorem Qr : (gj wS).length = 83 := by kernel_rfl
theorem HI : Yw wS wS = true := by kernel_rfl
theorem qbe : Vg wS.ts := by
 intro t ht c hc
 rw [show wS.ts = [zT] from rfl] at ht
 obtain rfl := List.mem_singleton.1 ht
 have : c = zC4 := List.eq_of_mem_replicate (show c ∈ qbH 64 zC4 from hc)
 subst this
 unfold C4.rng
 decide
theorem XV : isB (gj wS) := WC (snOk_iff.1 XU).1 qbe
theorem XW : ∀ s, ¬ RdS ((gj wS).take 82) s := by
 intro s h
 have h1 := (snOk_iff.1 h.ok).1
 have h2 := Kb h1
 have h3 := congrArg List.length h.eq
 rw [qbS, Qr] at h3
 omega
theorem HJ : DFun Tryz.prog 19 [.val (.int .u64 1), .slf 1 (WD).length ((WD).flatMap uc8)] [] (.tup [.slm 4 [wp0, wp1].length ([wp0, wp1].flatMap pcD), .val (.int .i64 0)]) [] := by
 have h := cut_d 1 WD rfl (by decide) (by decide)
 rw [qbd] at h
 exact h
theorem XX : DFun Tryz.prog 37 [.agg (piD zPi), .slm 4 [wp1, wp1].length ([wp1, wp1].flatMap pcD)] [] (.tup [.agg (piD wq1), .val (.int .i64 1), .val (.int .i64 0)]) [] := by
 have h := HB zPi qbb [wp1, wp1] (by decide)
 rw [HE] at h
 exact h
theorem Vt {p q : PiM} {x : PcM} (hp : kH p = true) (h : kU p x = (0, q)) : DFun Tryz.prog 30 [.agg (piD p), .agg (pcD x)] [] (.tup [.agg (piD q), .val (.int .i64 0)]) [] := by
 have h1 := Vn p (by have := (gV hp).1; omega) (fun b hb => by have := (gV hp).2 b hb; omega) hp x (by rw [h])
 rw [h] at h1
 exact h1
theorem HK {p q : PiM} {x : PcM} {e : Int} (hp : kH p = true) (he : e ≠ 0) (h : kU p x = (e, q)) : DFun Tryz.prog 30 [.agg (piD p), .agg (pcD x)] [] (.tup [.agg (piD zPi), .val (.int .i64 e)]) [] :=
 Vm p (by have := (gV hp).1; omega) (fun b hb => by have := (gV hp).2 b hb; omega) hp x e he (by rw [h])
theorem Je : DFun Tryz.prog 7 [] [] (.val (.bool true)) [] := by
 refine zap (N := 180) 0 (by kernel_rfl) Tryz.func7 rfl rfl rfl (by simp only [fr0, qbs, qbt]; exact rfl) rfl fun s0 hs0 => ?_
 refine zah ?_
 refine zaa 1 rfl ?_
 refine zab ?_
 refine zae ?_
 refine zao 2 ?_
 refine zac ?_
 refine zak rfl (xj 0 (1) (.int .u8 0) rfl ul yU (by kernel_rfl) (by decide) (ev1 rfl) (ev1 rfl) (fun _ => rfl) (fun _ => rfl) rfl (fun _ => by decide)) ?_
 refine za rfl (jZ (ps := [(0, .const (.int .i64 1)), (1, .const (.int .i64 1)), (2, .tmp 26)]) rfl fl24 V6 (ec (ev1 rfl) (ec (ev1 rfl) (ec (ev1 rfl) en))) rfl rfl rfl) ?_
 refine za rfl (jZ (ps := [(0, .tmp 27), (1, .const (.int .u64 3)), (2, .const (.int .u64 5))]) rfl fl29 xN (ec (ev1 rfl) (ec (ev1 rfl) (ec (ev1 rfl) en))) rfl rfl rfl) ?_
 refine zak rfl (zaq 1 rfl xN rfl) ?_
 refine zas rfl (kw rfl vP (ev1 rfl) (ev1 rfl) rfl rfl rfl rfl) ?_
 refine zab ?_
 refine zae ?_
 refine Y4 1 2 rfl rfl rfl (by simp only [qbD, qbF, zaf, zag]; exact rfl) ?_
 refine Z5 1 (show _ = .mix 29 (snL wS) from by kernel_rfl) rfl (by simp only [qbD, qbF, zaf, zag]; exact rfl) ?_
 refine zac ?_
 refine za rfl (qb rfl vP (ev1 rfl) rfl rfl) ?_
 refine za rfl (zaj [] [] [] rfl (ev1 rfl) (ec (ev1 rfl) en) rfl rfl (WA wS XU (by decide)) rfl rfl rfl rfl rfl rfl) ?_
 refine zaa 5 rfl ?_
 refine zab ?_
 refine zae ?_
 refine zao 1 ?_
 refine zac ?_
 refine zaa 1 rfl ?_
 refine za rfl (zaj [] [] [] rfl (ev1 rfl) (ec (ev1 rfl) en) rfl rfl (Qq XU (by decide) XV (fun _ _ => rfl)) rfl rfl rfl rfl rfl rfl) ?_
 refine zaa 3 rfl ?_
 refine zak rfl (zaq 2 rfl xN rfl) ?_
 refine zas rfl (kw rfl vP (ev1 rfl) (ev1 rfl) rfl rfl rfl rfl) ?_
 refine zaa 1 rfl ?_
 refine zab ?_
 refine zah ?_
 refine za rfl ((QL (300) (.int .u8 0) rfl qG zr5 (ev1 rfl) (ev1 rfl) (fun _ => rfl) (fun _ => rfl) (fun _ => by decide)).cast (d' := .slf 1 (WD).length ((WD).flatMap uc8)) (by kernel_rfl)) ?_
 refine za rfl (zaj [] [] [] rfl (ev1 rfl) (ec (ev1 rfl) (ec (ev1 rfl) en)) rfl rfl (HJ) rfl rfl rfl rfl rfl rfl) ?_
 refine zaa 5 rfl ?_
 refine zab ?_
 refine zae ?_
 refine zah ?_
 refine zaa 1 rfl ?_
 refine za rfl (qT rfl (ev1 rfl) (ev1 rfl)) ?_
 refine zaa 1 rfl ?_
 refine zai (qe rfl rfl rfl) rfl rfl rfl (zal (.inl rfl) (ev1 rfl)) ?_
 refine zai (qe rfl rfl rfl) rfl rfl rfl (qT rfl (ev2 rfl) (ev1 rfl)) ?_
 refine za rfl (kx rfl (ev1 rfl) (ev3 rfl id)) ?_
 refine zaa 1 rfl ?_
 refine zai (qe rfl rfl rfl) rfl rfl rfl (zal (.inl rfl) (ev1 rfl)) ?_
 refine zai (qe rfl rfl rfl) rfl rfl rfl (qT rfl (ev2 rfl) (ev1 rfl)) ?_
 refine za rfl (kx rfl (ev1 rfl) (ev3 rfl id)) ?_
 refine zaa 1 rfl ?_
 refine zai (qe rfl rfl rfl) rfl rfl rfl (zal (.inl rfl) (ev1 rfl)) ?_
 refine zai (qe rfl rfl rfl) rfl rfl rfl (qE rfl qG (ev2 rfl)) ?_
 refine zai (qe rfl rfl rfl) rfl rfl rfl (qT rfl (ev2 rfl) (ev1 rfl)) ?_
 refine za rfl (kx rfl (ev1 rfl) (ev3 rfl id)) ?_
 refine zaa 1 rfl ?_
 refine zai (qe rfl rfl rfl) rfl rfl rfl (zal (.inl rfl) (ev1 rfl)) ?_
 refine zai (qe rfl rfl rfl) rfl rfl rfl (kE rfl ye (ev2 rfl)) ?_
 refine zai (qe rfl rfl rfl) rfl rfl rfl (qT rfl (ev2 rfl) (ev1 rfl)) ?_
 refine za rfl (kx rfl (ev1 rfl) (ev3 rfl id)) ?_
 refine zaa 1 rfl ?_
 refine zai (qe rfl rfl rfl) rfl rfl rfl (qb rfl vP (ev1 rfl) rfl rfl) ?_
 refine zai (qe rfl rfl rfl) rfl rfl rfl (qb rfl vP (ev1 rfl) rfl rfl) ?_
 refine zai (qe rfl rfl rfl) rfl rfl rfl (zaj [] [] [] rfl (ev1 rfl) (ec (ev2 rfl) (ec (ev2 rfl) en)) rfl rfl (HC wS wS (by decide)) rfl rfl rfl rfl rfl rfl) ?_
 refine zai (qe rfl rfl rfl) rfl rfl rfl (kv rfl (ev2 rfl)) ?_
 refine za rfl (kx rfl (ev1 rfl) (ev3 rfl id)) ?_
 refine zab ?_
 refine qc rfl (by rw [Qr, HI]; rfl) ?_
 refine zar ?_
 refine zae ?_
 refine zao 1 ?_
 refine qg [([], []), ([], []), ([], []), ([], []), ([], []), ([], []), ([], []), ([], []), ([], []), ([], []), ([], []), ([], []), ([], []), ([3], [3]), ([3], [3]), ([], []), ([], [])] qP (by kernel_rfl) ?_
 refine zad rfl rfl (k8 rfl J4 jR) ?_
 refine zad rfl rfl (zal (.inl rfl) (ev1 rfl)) ?_
 refine zad rfl rfl (gN (1) (by decide) rfl ye (ev1 rfl) (ev1 rfl) (fun _ => rfl) (by decide) (fun _ => rfl)) ?_
 refine zad rfl rfl (gO rfl kI (ev1 rfl) rfl rfl) ?_
 refine zad rfl rfl (zal (.inl rfl) (ev1 rfl)) ?_
 refine zad rfl rfl (gN (1) (by decide) rfl ye (ev1 rfl) (ev1 rfl) (fun _ => rfl) (by decide) (fun _ => rfl)) ?_
 refine zad rfl rfl (gO rfl kI (ev1 rfl) rfl rfl) ?_
 refine zad rfl rfl (JI (ps := [(0, .tmp 74), (1, .tmp 77)]) rfl ye wu rfl (ec (ev1 rfl) (ec (ev1 rfl) en)) rfl rfl rfl (by rfl) rfl (by decide) (by decide)) ?_
 refine zad rfl rfl (zaj [] [] [] rfl (ev1 rfl) (ec (vg (ev1 rfl) xr) (ec (ev1 rfl) en)) rfl rfl (XX) rfl rfl rfl rfl rfl rfl) ?_
 refine zad rfl rfl (zal (.inl rfl) (ev1 rfl)) ?_
 refine zad rfl rfl (jN rfl (ev1 rfl) rfl) ?_
 refine zad rfl rfl (jN rfl (ev1 rfl) rfl) ?_
 refine zad rfl rfl (jN rfl (ev1 rfl) rfl) ?_
 refine gE rfl rfl (zaq 3 rfl jR rfl) rfl (by simp only [upd, zaf, zag]; exact rfl) ?_
 refine j0 rfl rfl (kw rfl qS (ev1 rfl) (ev1 rfl) rfl rfl rfl rfl) rfl (by simp only [upd, zaf, zag]; exact rfl) ?_
 refine zad rfl rfl (zal (.inr rfl) (ev1 rfl)) ?_
 refine zad rfl rfl (zal (.inr rfl) (ev1 rfl)) ?_
 refine qk ?_
 refine zah ?_
 refine za rfl (qb rfl qS (ev1 rfl) rfl rfl) ?_
 refine za rfl (zaj [] [] [] rfl (ev1 rfl) (ec (ev1 rfl) en) rfl rfl (z8 wq1 (by decide)) rfl rfl rfl rfl rfl rfl) ?_
 refine zaa 5 rfl ?_
 refine zab ?_
 refine zah ?_
 refine za rfl (qb rfl qS (ev1 rfl) rfl rfl) ?_
 refine za rfl (zaj [] [] [] rfl (ev1 rfl) (ec (ev1 rfl) en) rfl rfl (zg wq1 (by decide) wk_w1) rfl rfl rfl rfl rfl rfl) ?_
 refine zaa 5 rfl ?_
 refine zab ?_
 refine zae ?_
 refine qg [([3], []), ([], []), ([], []), ([], []), ([], []), ([], []), ([], []), ([], []), ([3], [3]), ([], [])] qP (by kernel_rfl) ?_
 refine zad rfl rfl (qb rfl qS (ev1 rfl) rfl rfl) ?_
 refine zad rfl rfl (zal (.inl rfl) (ev1 rfl)) ?_
 refine zad rfl rfl (gN (0) (by decide) rfl ye (ev1 rfl) (ev1 rfl) (fun _ => rfl) (by decide) (fun _ => rfl)) ?_
 refine zad rfl rfl (gO rfl kI (ev1 rfl) rfl rfl) ?_
 refine zad rfl rfl (zaj [] [] [] rfl (ev1 rfl) (ec (ev1 rfl) (ec (ev1 rfl) en)) rfl rfl (Vt wk_q1 HF) rfl rfl rfl rfl rfl rfl) ?_
 refine zad rfl rfl (zal (.inl rfl) (ev1 rfl)) ?_
 refine zad rfl rfl (jN rfl (ev1 rfl) rfl) ?_
 refine zad rfl rfl (jN rfl (ev1 rfl) rfl) ?_
 refine j0 rfl rfl (wK rfl qS (ev1 rfl) (ev1 rfl) rfl rfl rfl rfl) rfl (by simp only [upd, zaf, zag]; exact rfl) ?_
 refine zad rfl rfl (zal (.inr rfl) (ev1 rfl)) ?_
 refine qk ?_
 refine zah ?_
 refine za rfl (qb rfl qS (ev1 rfl) rfl rfl) ?_
 refine za rfl (zaj [] [] [] rfl (ev1 rfl) (ec (ev1 rfl) en) rfl rfl (J7 wq2 (by decide) wk_w2 (by decide)) rfl rfl rfl rfl rfl rfl) ?_
 refine zaa 5 rfl ?_
 refine zab ?_
 refine zae ?_
 have hl83 := Qr
 refine zao 1 ?_
 refine zac ?_
 refine zaa 1 rfl ?_
 refine za rfl (JD (j := 82) rfl qG (ev1 rfl) (jf (ev1 rfl)) (fun _ => by omega) (fun _ => by omega) (fun _ => rfl)) ?_
 refine za rfl (zaj [] [] [] rfl (ev1 rfl) (ec (ev1 rfl) en) rfl rfl ((XT (by rw [qbS]; omega) (Xy XV 82) XW)) rfl rfl rfl rfl rfl rfl) ?_
 refine zaa 3 rfl ?_
 refine zak rfl (zaq 4 rfl xN rfl) ?_
 refine zas rfl (kw rfl vP (ev1 rfl) (ev1 rfl) rfl rfl rfl rfl) ?_
 refine zaa 1 rfl ?_
 refine zab ?_
 refine zae ?_
 refine zao 1 ?_
 refine qg [([3], []), ([], []), ([], []), ([], []), ([], []), ([], []), ([], []), ([5], [5]), ([5], [5]), ([], [])] qP (by kernel_rfl) ?_
 refine zad rfl rfl (qb rfl qS (ev1 rfl) rfl rfl) ?_
 refine zad rfl rfl (QL (256) (.int .u8 0) rfl qG zr5 (ev1 rfl) (ev1 rfl) (fun _ => rfl) (fun _ => rfl) (fun _ => by decide)) ?_
 refine zad rfl rfl (jZ (ps := [(0, .const (.int .u64 2)), (2, .const (.int .i64 3)), (3, .tmp 114)]) rfl fl53 wu (ec (ev1 rfl) (ec (ev1 rfl) (ec (ev1 rfl) en))) rfl rfl rfl) ?_
 refine zad rfl rfl (zaj [] [] [] rfl (ev1 rfl) (ec (ev1 rfl) (ec (ev1 rfl) en)) rfl rfl (Vt wk_q2 HG) rfl rfl rfl rfl rfl rfl) ?_
 refine zad rfl rfl (zal (.inl rfl) (ev1 rfl)) ?_
 refine zad rfl rfl (jN rfl (ev1 rfl) rfl) ?_
 refine zad rfl rfl (jN rfl (ev1 rfl) rfl) ?_
 refine gE rfl rfl (zaq 5 rfl jR rfl) rfl (by simp only [upd, zaf, zag]; exact rfl) ?_
 refine j0 rfl rfl (kw rfl qS (ev1 rfl) (ev1 rfl) rfl rfl rfl rfl) rfl (by simp only [upd, zaf, zag]; exact rfl) ?_
 refine zad rfl rfl (zal (.inr rfl) (ev1 rfl)) ?_
 refine qk ?_
 refine zah ?_
 refine za rfl (qb rfl qS (ev1 rfl) rfl rfl) ?_
 refine za rfl (zaj [] [] [] rfl (ev1 rfl) (ec (ev1 rfl) en) rfl rfl (z8 wq3 (by decide)) rfl rfl rfl rfl rfl rfl) ?_
 refine zaa 5 rfl ?_
 refine zab ?_
 refine zae ?_
 refine zao 1 ?_
 refine qg [([5], []), ([], []), ([], []), ([], []), ([], []), ([], []), ([], []), ([], []), ([6], [6]), ([6], [6]), ([], [])] qP (by kernel_rfl) ?_
 refine zad rfl rfl (qb rfl qS (ev1 rfl) rfl rfl) ?_
 refine zad rfl rfl (zal (.inl rfl) (ev1 rfl)) ?_
 refine zad rfl rfl (gN (0) (by decide) rfl ye (ev1 rfl) (ev1 rfl) (fun _ => rfl) (by decide) (fun _ => rfl)) ?_
 refine zad rfl rfl (gO rfl kI (ev1 rfl) rfl rfl) ?_
 refine zad rfl rfl (zaj [] [] [] rfl (ev1 rfl) (ec (ev1 rfl) (ec (ev1 rfl) en)) rfl rfl (HK wk_q3 (by decide) HH) rfl rfl rfl rfl rfl rfl) ?_
 refine zad rfl rfl (zal (.inl rfl) (ev1 rfl)) ?_
 refine zad rfl rfl (jN rfl (ev1 rfl) rfl) ?_
 refine zad rfl rfl (jN rfl (ev1 rfl) rfl) ?_
 refine gE rfl rfl (zaq 6 rfl jR rfl) rfl (by simp only [upd, zaf, zag]; exact rfl) ?_
 refine j0 rfl rfl (kw rfl qS (ev1 rfl) (ev1 rfl) rfl rfl rfl rfl) rfl (by simp only [upd, zaf, zag]; exact rfl) ?_
 refine zad rfl rfl (zal (.inr rfl) (ev1 rfl)) ?_
 refine qk ?_
 refine zah ?_
 refine zaa 1 rfl ?_
 refine za rfl (qm rfl (ev1 rfl) (ev1 rfl)) ?_
 refine zaa 1 rfl ?_
 refine zai (qn rfl rfl rfl) rfl rfl rfl (zal (.inl rfl) (ev1 rfl)) ?_
 refine zai (qn rfl rfl rfl) rfl rfl rfl (qm rfl (ev2 rfl) (ev1 rfl)) ?_
 refine za rfl (qC rfl (ev1 rfl) (ev3 rfl id)) ?_
 refine zaa 1 rfl ?_
 refine zai (qn rfl rfl rfl) rfl rfl rfl (zal (.inl rfl) (ev1 rfl)) ?_
 refine zai (qn rfl rfl rfl) rfl rfl rfl (qm rfl (ev2 rfl) (ev1 rfl)) ?_
 refine za rfl (qC rfl (ev1 rfl) (ev3 rfl id)) ?_
 refine zaa 1 rfl ?_
 refine zai (qn rfl rfl rfl) rfl rfl rfl (zal (.inl rfl) (ev1 rfl)) ?_
 refine zai (qn rfl rfl rfl) rfl rfl rfl (qm rfl (ev2 rfl) (ev1 rfl)) ?_
 refine za rfl (qC rfl (ev1 rfl) (ev3 rfl id)) ?_
 refine zaa 1 rfl ?_
 refine zai (qn rfl rfl rfl) rfl rfl rfl (zal (.inl rfl) (ev1 rfl)) ?_
 refine zai (qn rfl rfl rfl) rfl rfl rfl (qm rfl (ev2 rfl) (ev1 rfl)) ?_
 refine za rfl (qC rfl (ev1 rfl) (ev3 rfl id)) ?_
 refine zaa 1 rfl ?_
 refine zai (qn rfl rfl rfl) rfl rfl rfl (zal (.inl rfl) (ev1 rfl)) ?_
 refine za rfl (qC rfl (ev1 rfl) (ev3 rfl id)) ?_
 refine zaa 1 rfl ?_
 refine zai (qn rfl rfl rfl) rfl rfl rfl (zal (.inl rfl) (ev1 rfl)) ?_
 refine zai (qn rfl rfl rfl) rfl rfl rfl (kv rfl (ev2 rfl)) ?_
 refine za rfl (qC rfl (ev1 rfl) (ev3 rfl id)) ?_
 refine zaa 1 rfl ?_
 refine zai (qn rfl rfl rfl) rfl rfl rfl (zal (.inl rfl) (ev1 rfl)) ?_
 refine za rfl (qC rfl (ev1 rfl) (ev3 rfl id)) ?_
 refine zaa 1 rfl ?_
 refine zai (qn rfl rfl rfl) rfl rfl rfl (zal (.inl rfl) (ev1 rfl)) ?_
 refine zai (qn rfl rfl rfl) rfl rfl rfl (qE rfl qG (ev2 rfl)) ?_
 refine zai (qn rfl rfl rfl) rfl rfl rfl (qm rfl (ev2 rfl) (ev1 rfl)) ?_
 refine za rfl (qC rfl (ev1 rfl) (ev3 rfl id)) ?_
 refine zaa 1 rfl ?_
 refine zai (qn rfl rfl rfl) rfl rfl rfl (zal (.inl rfl) (ev1 rfl)) ?_
 refine zai (qn rfl rfl rfl) rfl rfl rfl (qm rfl (ev2 rfl) (ev1 rfl)) ?_
 refine za rfl (qC rfl (ev1 rfl) (ev3 rfl id)) ?_
 refine zaa 1 rfl ?_
 refine zai (qn rfl rfl rfl) rfl rfl rfl (zal (.inl rfl) (ev1 rfl)) ?_
 refine zai (qn rfl rfl rfl) rfl rfl rfl (qm rfl (ev2 rfl) (ev1 rfl)) ?_
 refine za rfl (qC rfl (ev1 rfl) (ev3 rfl id)) ?_
 refine zaa 1 rfl ?_
 refine zai (qn rfl rfl rfl) rfl rfl rfl (zal (.inl rfl) (ev1 rfl)) ?_
 refine za rfl (qC rfl (ev1 rfl) (ev3 rfl id)) ?_
 refine zaa 1 rfl ?_
 refine zai (qn rfl rfl rfl) rfl rfl rfl (zal (.inl rfl) (ev1 rfl)) ?_
 refine zai (qn rfl rfl rfl) rfl rfl rfl (qm rfl (ev2 rfl) (ev1 rfl)) ?_
 refine za rfl (qC rfl (ev1 rfl) (ev3 rfl id)) ?_
 refine zaa 1 rfl ?_
 refine zab ?_
 refine qa ?_
 refine qx (rs1 rfl (qL rfl)) rfl ?_
 rw [wkn1, wkn3]
 rfl
end Go.Proofs.YtofklkbfkoliiaaGreat
namespace Go.Proofs.YtofklkbfkoliiaaGreat
set_option linter.unusedVariables false
set_option linter.unusedSimpArgs false
open Go.RowKit
open Go.ChangeShapes Go.WideShapes Go.ChangeAt Go.Joins Go.Deep
theorem Kr {v : Value} (h : (Prim.int .i64).is v) : ∃ a : Int, (-9223372036854775808 ≤ a ∧ a ≤ 9223372036854775807) ∧ v = .int .i64 a := by
 obtain ⟨x, rfl, w⟩ := h
 exact ⟨x, by simpa [Lit.wf, IntKind.min, IntKind.max, IntKind.signed, IntKind.bits] using w, rfl⟩
theorem Ks {v : Value} (h : (Prim.int .u64).is v) : ∃ a : Int, (0 ≤ a ∧ a ≤ 18446744073709551615) ∧ v = .int .u64 a := by
 obtain ⟨x, rfl, w⟩ := h
 exact ⟨x, by simpa [Lit.wf, IntKind.min, IntKind.max, IntKind.signed, IntKind.bits] using w, rfl⟩
theorem Qs {p : Prim} {ps : List Prim} {cs : List Value} (h : gG (p :: ps) cs) : ∃ v r, cs = v :: r ∧ p.is v ∧ gG ps r := by
 cases cs with
 | nil => cases h
 | cons v r => exact ⟨v, r, rfl, h.1, h.2⟩
theorem WE {cs : List Value} (h : gG [] cs) : cs = [] := by
 cases cs with
 | nil => rfl
 | cons v r => cases h
theorem XY : ∀ cs, gG [.int .i64] cs → ∃ a : Int, (-9223372036854775808 ≤ a ∧ a ≤ 9223372036854775807) ∧ cs = [.int .i64 a]
 | [c0], h => by
  obtain ⟨h0, _⟩ := h
  obtain ⟨a, w, rfl⟩ := Kr h0
  exact ⟨a, w, rfl⟩
 | [], h => by cases h
 | _ :: _ :: _, h => by obtain ⟨_, h⟩ := h; cases h
theorem HL {v : Value} (h : (Prim.int .u8).is v) : ∃ a : Int, (0 ≤ a ∧ a ≤ 255) ∧ v = .int .u8 a := by
 obtain ⟨x, rfl, w⟩ := h
 exact ⟨x, by simpa [Lit.wf, IntKind.min, IntKind.max, IntKind.signed, IntKind.bits] using w, rfl⟩
theorem xt {w : World} : Opens Tryz.prog w 3 (fun a : Int => [.val (.int .i64 a)]) (fun a => -9223372036854775808 ≤ a ∧ a ≤ 9223372036854775807) := zG 1 (fun a : Int => [.int .i64 a]) _ XY (by kernel_rfl)
theorem XZ : ∀ cs, gG [.int .u8] cs → ∃ a : Int, (0 ≤ a ∧ a ≤ 255) ∧ cs = uc8 a
 | [c0], h => by
  obtain ⟨h0, _⟩ := h
  obtain ⟨a, w, rfl⟩ := HL h0
  exact ⟨a, w, rfl⟩
 | [], h => by cases h
 | _ :: _ :: _, h => by obtain ⟨_, h⟩ := h; cases h
theorem X0 {v : Value} (h : (Prim.int .u64).is v) : ∃ n : Nat, v = .int .u64 n := by
 obtain ⟨a, w, rfl⟩ := Ks h
 exact ⟨a.toNat, by rw [Int.toNat_of_nonneg w.1]⟩
theorem HM (cs : List Value) (h : gG [.int .u64] cs) : ∃ a : Nat, True ∧ cs = [.int .u64 (a : Int)] := by
 obtain ⟨x0, r, rfl, h0, h⟩ := Qs h
 obtain rfl := WE h
 obtain ⟨a0, rfl⟩ := X0 h0
 exact ⟨a0, trivial, rfl⟩
theorem Jf {w : World} : Opens Tryz.prog w 25 (fun a : Nat => [.val (.int .u64 (a : Int))]) (fun _ => True) := zG 1 (fun a : Nat => [.int .u64 (a : Int)]) _ HM (by kernel_rfl)
end Go.Proofs.YtofklkbfkoliiaaGreat
namespace Go.Proofs.YtofklkbfkoliiaaGreat
set_option linter.unusedVariables false
set_option linter.unusedSimpArgs false
open Go.RowKit
open Go.ChangeShapes Go.WideShapes Go.ChangeAt Go.Joins Go.Deep
theorem Jg {w : World} : Opens Tryz.prog w 30 (fun l : List Int => [rwB l]) (fun l => ∀ x ∈ l, 0 ≤ x ∧ x ≤ 255) :=
 VS 4 uc8 (fun n : Int => 0 ≤ n ∧ n ≤ 255) XZ Tryz.underlying30 (show xw Tryz.prog 4 5 = some [.int .u8] by kernel_rfl) (by kernel_rfl) (by decide) (fun _ => rfl)
theorem X1 {w : World} : Opens Tryz.prog w 53 pcD (fun _ => True) :=
 KQ (fun a : Nat × Int × Int × List Int × Unit => (⟨a.1, a.2.1, a.2.2.1, a.2.2.2.1⟩ : PcM)) (uO Tryz.underlying53 (by kernel_rfl) (gf (k := 1) rfl (by kernel_rfl) Jf (gf (k := 1) rfl (by kernel_rfl) xt (gf (k := 1) rfl (by kernel_rfl) xt (gf (k := 1) rfl (by kernel_rfl) Jg zI))))) (fun _ => rfl) (fun _ _ => trivial)
theorem X2 {w : World} : Opens Tryz.prog w 61 piD (fun _ => True) :=
 KQ (fun a : Nat × Int × List (List Int) × Unit => (⟨a.1, a.2.1, a.2.2.1⟩ : PiM)) (uO Tryz.underlying61 (by kernel_rfl) (gf (k := 1) rfl (by kernel_rfl) Jf (gf (k := 1) rfl (by kernel_rfl) xt (gf (k := 1) rfl (by kernel_rfl) (zH Jg Tryz.underlying59 (by kernel_rfl) (by decide) (fun _ => rfl) (fun _ => rfl)) zI)))) (fun _ => rfl) (fun _ _ => trivial)
end Go.Proofs.YtofklkbfkoliiaaGreat
namespace Go.Proofs.YtofklkbfkoliiaaGreat
set_option linter.unusedVariables false
set_option linter.unusedSimpArgs false
open Go.RowKit
attribute [local irreducible] tkN jC kG
theorem Vu (l r : List Int) : DFun Tryz.prog 66 [.slf 1 (l).length ((l).flatMap uc8), .slf 1 (r).length ((r).flatMap uc8)] [] (.val (.bool (decide (l = r)))) [] := by
 refine zap (N := 26) 0 (by kernel_rfl) Tryz.func66 rfl rfl rfl (by simp only [fr0, qbs, qbt]; exact rfl) rfl fun s0 hs0 => ?_
 refine jY (t := 0) rfl fun hl0 hL0 => ?_
 refine jY (t := 1) rfl fun hl1 hL1 => ?_
 refine zah ?_
 refine zaa 1 rfl ?_
 refine zab ?_
 refine zae ?_
 refine zah ?_
 refine zaa 1 rfl ?_
 refine za rfl (qE rfl qG (ev1 rfl)) ?_
 refine zaa 1 rfl ?_
 refine za rfl (qE rfl qG (ev1 rfl)) ?_
 refine za rfl (qT rfl (ev1 rfl) (ev1 rfl)) ?_
 refine zab ?_
 refine qh rfl (fun c1 => ?_) (fun c1 => ?_)
 ·try simp only [decide_eq_true_eq, decide_eq_false_iff_not, beq_iff_eq, bne_iff_ne, beq_eq_false_iff_ne, bne_eq_false_iff_eq, qbx, qby, qbu, qbE, qbv, ne_eq, Decidable.not_not, qbQ, qbR] at c1
  refine zah ?_
  refine zaa 1 rfl ?_
  refine zab ?_
  refine qa ?_
  refine qx (rs1 rfl (qL rfl)) rfl ?_
  have hne : l ≠ r := fun e => by subst e; exact c1 rfl
  rw [decide_eq_false hne]
 ·try simp only [decide_eq_true_eq, decide_eq_false_iff_not, beq_iff_eq, bne_iff_ne, beq_eq_false_iff_ne, bne_eq_false_iff_eq, qbx, qby, qbu, qbE, qbv, ne_eq, Decidable.not_not, qbQ, qbR] at c1
  have hlen : l.length = r.length := by omega
  refine zar ?_
  refine zae ?_
  refine zah ?_
  refine zaa 1 rfl ?_
  refine za rfl (qE rfl qG (ev1 rfl)) ?_
  refine zaa 1 rfl ?_
  refine zab ?_
  refine zat ?_
  refine qI ⟨hs0, rfl⟩ (α := Nat) (fun k => [(14, .val (.int .i64 (k : Int)))]) [(1, _), (12, _), (13, _)] (fun k => []) [] (fun k => k ≤ l.length ∧ l.take k = r.take k) (fun k => l.length - k) 0 [] (⟨qb3 _, rfl⟩) rfl ⟨rfl, rfl, rfl, trivial⟩ ⟨rfl, trivial⟩ trivial ?_
  intro k hx
  simp only [upd, zaf, zag, qbD, qbF]
  obtain ⟨hk, he⟩ := hx
  refine zah ?_
  refine za rfl (qv rfl (ev1 rfl) (ev1 rfl)) ?_
  refine zab ?_
  refine zae ?_
  refine qh rfl (fun c2 => ?_) (fun c2 => ?_)
  ·try simp only [decide_eq_true_eq, decide_eq_false_iff_not, beq_iff_eq, bne_iff_ne, beq_eq_false_iff_ne, bne_eq_false_iff_eq, qbx, qby, qbu, qbE, qbv, ne_eq, Decidable.not_not, qbQ, qbR] at c2
   refine zar ?_
   refine zae ?_
   refine zat ?_
   refine zah ?_
   refine zaa 1 rfl ?_
   refine za rfl (q0 (j := k) rfl qG (ev1 rfl) (ev1 rfl) (fun _ => rfl) (by decide) (by omega) (by omega)) ?_
   refine za rfl (ke rfl tb5 (ev1 rfl) rfl) ?_
   refine zaa 2 rfl ?_
   refine zab ?_
   refine zah ?_
   refine zaa 3 rfl ?_
   refine za rfl (q0 (j := k) rfl qG (ev1 rfl) (ev1 rfl) (fun _ => rfl) (by decide) (by omega) (by omega)) ?_
   refine za rfl (ke rfl tb5 (ev1 rfl) rfl) ?_
   refine za rfl (qT rfl (ev1 rfl) (ev1 rfl)) ?_
   refine zab ?_
   refine qh rfl (fun c2 => ?_) (fun c2 => ?_)
   ·have c3 : l[k] ≠ r[k] := by simpa using c2
    refine zah ?_
    refine zaa 1 rfl ?_
    refine zab ?_
    refine qa ?_
    refine qx (rs1 rfl (qL rfl)) rfl ?_
    have hne : l ≠ r := fun e => by subst e; exact c3 rfl
    rw [decide_eq_false hne]
   ·have c3 : l[k] = r[k] := by simpa using c2
    refine zar ?_
    refine zac ?_
    refine za rfl (ql rfl (ev1 rfl) (ev1 rfl) (fun _ => qbB _ (by omega))) ?_
    refine zaa 1 rfl ?_
    refine zab ?_
    refine ⟨k + 1, [], ⟨by omega, by rw [qbP (by omega), qbP (by omega), he, c3]⟩, by simp only []; omega, rfl, ⟨rfl, rfl, rfl, rfl, trivial⟩, trivial⟩
  ·try simp only [decide_eq_true_eq, decide_eq_false_iff_not, beq_iff_eq, bne_iff_ne, beq_eq_false_iff_ne, bne_eq_false_iff_eq, qbx, qby, qbu, qbE, qbv, ne_eq, Decidable.not_not, qbQ, qbR] at c2
   refine qD ?_
   refine zah ?_
   refine zaa 1 rfl ?_
   refine zab ?_
   refine qa ?_
   refine qx (rs1 rfl (qL rfl)) rfl ?_
   have e : l = r := by
    have h := he
    rw [qbT (by omega), qbT (by omega)] at h
    exact h
   rw [decide_eq_true e]
def Yz (p q : PcM) : Bool := (((p.sn == q.sn) && (p.ix == q.ix)) && (p.mn == q.mn)) && decide (p.b = q.b)
theorem Qt (p : PcM) : Yz p p = true := by
 unfold Yz
 simp
theorem sameP_iff {p q : PcM} : Yz p q = true ↔ p = q := by
 obtain ⟨a, b, c, d⟩ := p
 obtain ⟨e, f, g, h⟩ := q
 unfold Yz
 simp only [qbu, beq_iff_eq, decide_eq_true_eq, PcM.mk.injEq]
 constructor
 ·rintro ⟨⟨⟨h1, h2⟩, h3⟩, h4⟩
  exact ⟨h1, h2, h3, h4⟩
 ·rintro ⟨h1, h2, h3, h4⟩
  exact ⟨⟨⟨h1, h2⟩, h3⟩, h4⟩
theorem spc_d (p q : PcM) : DFun Tryz.prog 22 [.agg (pcD p), .agg (pcD q)] [] (.val (.bool (Yz p q))) [] := by
 refine zap (N := 31) 0 (by kernel_rfl) Tryz.func22 rfl rfl rfl (by simp only [fr0, qbs, qbt]; exact rfl) rfl fun s0 hs0 => ?_
 refine zae ?_
 refine zao 2 ?_
 refine zac ?_
 refine zak rfl (qd 0 rfl (ev1 rfl) rfl) ?_
 refine zak rfl (qd 1 rfl (ev1 rfl) rfl) ?_
 refine zaa 1 rfl ?_
 refine zab ?_
 refine zah ?_
 refine za rfl (zam rfl kN (ev1 rfl)) ?_
 refine za rfl (zan rfl qZ (ev1 rfl) rfl rfl) ?_
 refine za rfl (zam rfl kN (ev1 rfl)) ?_
 refine za rfl (zan rfl qZ (ev1 rfl) rfl rfl) ?_
 refine za rfl (qm rfl (ev1 rfl) (ev1 rfl)) ?_
 refine zaa 1 rfl ?_
 refine zai (qn rfl rfl rfl) rfl rfl rfl (zam rfl jv (ev1 rfl)) ?_
 refine zai (qn rfl rfl rfl) rfl rfl rfl (zan rfl tb3 (ev2 rfl) rfl rfl) ?_
 refine zai (qn rfl rfl rfl) rfl rfl rfl (zam rfl jv (ev1 rfl)) ?_
 refine zai (qn rfl rfl rfl) rfl rfl rfl (zan rfl tb3 (ev2 rfl) rfl rfl) ?_
 refine zai (qn rfl rfl rfl) rfl rfl rfl (qm rfl (ev2 rfl) (ev2 rfl)) ?_
 refine za rfl (qC rfl (ev1 rfl) (ev3 rfl id)) ?_
 refine zaa 1 rfl ?_
 refine zai (qn rfl rfl rfl) rfl rfl rfl (zam rfl k9 (ev1 rfl)) ?_
 refine zai (qn rfl rfl rfl) rfl rfl rfl (zan rfl tb3 (ev2 rfl) rfl rfl) ?_
 refine zai (qn rfl rfl rfl) rfl rfl rfl (zam rfl k9 (ev1 rfl)) ?_
 refine zai (qn rfl rfl rfl) rfl rfl rfl (zan rfl tb3 (ev2 rfl) rfl rfl) ?_
 refine zai (qn rfl rfl rfl) rfl rfl rfl (qm rfl (ev2 rfl) (ev2 rfl)) ?_
 refine za rfl (qC rfl (ev1 rfl) (ev3 rfl id)) ?_
 refine zaa 1 rfl ?_
 refine zai (qn rfl rfl rfl) rfl rfl rfl (zam rfl yd (ev1 rfl)) ?_
 refine zai (qn rfl rfl rfl) rfl rfl rfl (zan rfl kD (ev2 rfl) rfl rfl) ?_
 refine zai (qn rfl rfl rfl) rfl rfl rfl (zam rfl yd (ev1 rfl)) ?_
 refine zai (qn rfl rfl rfl) rfl rfl rfl (zan rfl kD (ev2 rfl) rfl rfl) ?_
 refine zai (qn rfl rfl rfl) rfl rfl rfl (zaj [] [] [] rfl (ev1 rfl) (ec (ev2 rfl) (ec (ev2 rfl) en)) rfl rfl (Vu _ _) rfl rfl rfl rfl rfl rfl) ?_
 refine za rfl (qC rfl (ev1 rfl) (ev3 rfl id)) ?_
 refine zaa 1 rfl ?_
 refine zab ?_
 refine qa ?_
 refine qx (rs1 rfl (qL rfl)) rfl ?_
 rfl
theorem eqf_d (l r : List PcM) : DFun Tryz.prog 21 [.slm 4 (l).length ((l).flatMap pcD), .slm 4 (r).length ((r).flatMap pcD), .fn (.func 22) [] []] [] (.val (.bool (decide (l = r)))) [] := by
 refine zap (N := 32) 0 (by kernel_rfl) Tryz.func21 rfl rfl rfl (by simp only [fr0, qbs, qbt]; exact rfl) rfl fun s0 hs0 => ?_
 refine gM (t := 0) rfl fun hl0 hL0 => ?_
 refine gM (t := 1) rfl fun hl1 hL1 => ?_
 refine zah ?_
 refine zaa 1 rfl ?_
 refine zab ?_
 refine zae ?_
 refine zah ?_
 refine zaa 1 rfl ?_
 refine za rfl (kE rfl ye (ev1 rfl)) ?_
 refine zaa 1 rfl ?_
 refine za rfl (kE rfl ye (ev1 rfl)) ?_
 refine za rfl (qT rfl (ev1 rfl) (ev1 rfl)) ?_
 refine zab ?_
 refine qh rfl (fun c1 => ?_) (fun c1 => ?_)
 ·try simp only [decide_eq_true_eq, decide_eq_false_iff_not, beq_iff_eq, bne_iff_ne, beq_eq_false_iff_ne, bne_eq_false_iff_eq, qbx, qby, qbu, qbE, qbv, ne_eq, Decidable.not_not, qbQ, qbR] at c1
  refine zah ?_
  refine zaa 1 rfl ?_
  refine zab ?_
  refine qa ?_
  refine qx (rs1 rfl (qL rfl)) rfl ?_
  have hne : l ≠ r := fun e => by subst e; exact c1 rfl
  rw [decide_eq_false hne]
 ·try simp only [decide_eq_true_eq, decide_eq_false_iff_not, beq_iff_eq, bne_iff_ne, beq_eq_false_iff_ne, bne_eq_false_iff_eq, qbx, qby, qbu, qbE, qbv, ne_eq, Decidable.not_not, qbQ, qbR] at c1
  have hlen : l.length = r.length := by omega
  refine zar ?_
  refine zae ?_
  refine zah ?_
  refine zaa 1 rfl ?_
  refine za rfl (kE rfl ye (ev1 rfl)) ?_
  refine zaa 1 rfl ?_
  refine zab ?_
  refine zat ?_
  refine qI ⟨hs0, rfl⟩ (α := Nat) (fun k => [(17, .val (.int .i64 (k : Int)))]) [(1, _), (2, _), (15, _), (16, _)] (fun k => []) [] (fun k => k ≤ l.length ∧ l.take k = r.take k) (fun k => l.length - k) 0 [] (⟨qb3 _, rfl⟩) rfl ⟨rfl, rfl, rfl, rfl, trivial⟩ ⟨rfl, trivial⟩ trivial ?_
  intro k hx
  simp only [upd, zaf, zag, qbD, qbF]
  obtain ⟨hk, he⟩ := hx
  refine zah ?_
  refine za rfl (qv rfl (ev1 rfl) (ev1 rfl)) ?_
  refine zab ?_
  refine zae ?_
  refine qh rfl (fun c2 => ?_) (fun c2 => ?_)
  ·try simp only [decide_eq_true_eq, decide_eq_false_iff_not, beq_iff_eq, bne_iff_ne, beq_eq_false_iff_ne, bne_eq_false_iff_eq, qbx, qby, qbu, qbE, qbv, ne_eq, Decidable.not_not, qbQ, qbR] at c2
   refine zar ?_
   refine zae ?_
   refine zat ?_
   refine zae ?_
   refine zao 1 ?_
   refine zac ?_
   refine zaa 1 rfl ?_
   refine za rfl (gN (k) (by decide) rfl ye (ev1 rfl) (ev1 rfl) (fun _ => rfl) (by omega) (fun _ => rfl)) ?_
   refine za rfl (gO rfl kI (ev1 rfl) rfl rfl) ?_
   refine zak rfl (zaq 0 rfl wu rfl) ?_
   refine zaa 1 rfl ?_
   refine zas rfl (kw rfl kI (ev1 rfl) (ev1 rfl) rfl rfl rfl rfl) ?_
   refine zab ?_
   refine zae ?_
   refine zao 1 ?_
   refine zac ?_
   refine zaa 2 rfl ?_
   refine za rfl (gN (k) (by decide) rfl ye (ev1 rfl) (ev1 rfl) (fun _ => rfl) (by omega) (fun _ => rfl)) ?_
   refine za rfl (gO rfl kI (ev1 rfl) rfl rfl) ?_
   refine zak rfl (zaq 1 rfl wu rfl) ?_
   refine zas rfl (kw rfl kI (ev1 rfl) (ev1 rfl) rfl rfl rfl rfl) ?_
   refine zab ?_
   refine zah ?_
   refine zaa 1 rfl ?_
   refine za rfl (qb rfl kI (ev1 rfl) rfl rfl) ?_
   refine za rfl (qb rfl kI (ev1 rfl) rfl rfl) ?_
   refine za rfl (zaj [] [] [] rfl (ev1 rfl) (ec (ev1 rfl) (ec (ev1 rfl) en)) rfl rfl (spc_d _ _) rfl rfl rfl rfl rfl rfl) ?_
   refine za rfl (kv rfl (ev1 rfl)) ?_
   refine zab ?_
   refine qh rfl (fun c2 => ?_) (fun c2 => ?_)
   ·have c3 : l[k] ≠ r[k] := fun e => by rw [e, Qt] at c2; cases c2
    refine zah ?_
    refine zaa 1 rfl ?_
    refine zab ?_
    refine qa ?_
    refine qx (rs1 rfl (qL rfl)) rfl ?_
    have hne : l ≠ r := fun e => by subst e; exact c3 rfl
    rw [decide_eq_false hne]
   ·have c3 : l[k] = r[k] := sameP_iff.1 (by simpa using c2)
    refine zar ?_
    refine zac ?_
    refine za rfl (ql rfl (ev1 rfl) (ev1 rfl) (fun _ => qbB _ (by omega))) ?_
    refine zaa 1 rfl ?_
    refine zab ?_
    refine ⟨k + 1, [], ⟨by omega, by rw [qbP (by omega), qbP (by omega), he, c3]⟩, by simp only []; omega, rfl, ⟨rfl, rfl, rfl, rfl, rfl, trivial⟩, trivial⟩
  ·try simp only [decide_eq_true_eq, decide_eq_false_iff_not, beq_iff_eq, bne_iff_ne, beq_eq_false_iff_ne, bne_eq_false_iff_eq, qbx, qby, qbu, qbE, qbv, ne_eq, Decidable.not_not, qbQ, qbR] at c2
   refine qD ?_
   refine zah ?_
   refine zaa 1 rfl ?_
   refine zab ?_
   refine qa ?_
   refine qx (rs1 rfl (qL rfl)) rfl ?_
   have e : l = r := by
    have h := he
    rw [qbT (by omega), qbT (by omega)] at h
    exact h
   rw [decide_eq_true e]
theorem Vv (n : Int) : DFun Tryz.prog 65 [.val (.int .u64 n)] [] (.val (.bool (snB n))) [] := by
 refine zap (N := 9) 0 (by kernel_rfl) Tryz.func65 rfl rfl rfl (by simp only [fr0, qbs, qbt]; exact rfl) rfl fun s0 hs0 => ?_
 refine zah ?_
 refine zaa 1 rfl ?_
 refine zab ?_
 refine zah ?_
 refine zaa 1 rfl ?_
 refine za rfl (jh rfl (ev1 rfl) (ev1 rfl)) ?_
 refine zaa 1 rfl ?_
 refine zai (qn rfl rfl rfl) rfl rfl rfl (zal (.inl rfl) (ev1 rfl)) ?_
 refine zai (qn rfl rfl rfl) rfl rfl rfl (y3 rfl (ev2 rfl) (ev1 rfl)) ?_
 refine za rfl (qC rfl (ev1 rfl) (ev3 rfl id)) ?_
 refine zaa 1 rfl ?_
 refine zab ?_
 refine qa ?_
 refine qx (rs1 rfl (qL rfl)) rfl ?_
 rfl
end Go.Proofs.YtofklkbfkoliiaaGreat
namespace Go.Proofs.YtofklkbfkoliiaaGreat
set_option linter.unusedVariables false
set_option linter.unusedSimpArgs false
open Go.RowKit
attribute [local irreducible] tkN jC kG mnN
def jq (R : List (List Int)) : List Mem := R.map fun r => Mem.arr 5 1 r.length (r.flatMap uc8)
theorem WF (R : List (List Int)) (r : List Int) : jq (R ++ [r]) = jq R ++ [Mem.arr 5 1 r.length (r.flatMap uc8)] := by simp [jq]
theorem X3 (R : List (List Int)) : (jq R).length = R.length := by simp [jq]
theorem vQ {R : List (List Int)} {k : Nat} (h : k < R.length) : (jq R)[k]? = some (Mem.arr 5 1 R[k].length (R[k].flatMap uc8)) := by simp [jq, h]
theorem X4 {R : List (List Int)} {k n : Nat} {r : List Int} (hr : r.length = n) : (jq R).set k (Mem.arr 5 1 n (r.flatMap uc8)) = jq (R.set k r) := by
 subst hr
 unfold jq
 rw [List.map_set]
theorem Kd (l : List Int) (h : l.length ≤ 2000000) (R : List (List Int)) (k : Nat) (hk : R.length = k) : DFun Tryz.prog 16 [.slf 1 (l).length ((l).flatMap uc8)] [.fam (jq R)] (.farr 0 k) [.fam (jq (R ++ [l]))] := by
 have h1 := DFun.absR (Min := []) (Mout := []) (jq R) 0 (Qh l h) rfl rfl rfl rfl rfl rfl rfl rfl rfl
 rw [X3, hk] at h1
 rw [WF]
 exact h1
end Go.Proofs.YtofklkbfkoliiaaGreat
namespace Go.Proofs.YtofklkbfkoliiaaGreat
set_option linter.unusedVariables false
set_option linter.unusedSimpArgs false
open Go.RowKit
attribute [local irreducible] tkN jC kG
def Ke (i m n : Int) : Bool := (n == 256) || (((i == IntKind.i64.wrap (m - 1)) && decide (1 ≤ n)) && decide (n < 256))
theorem X5 {i m n : Int} (h : 1 ≤ m ∧ m ≤ 64) : Ke i m n = Vj i m n := by
 unfold Ke Vj
 rw [qbB _ (by omega)]
def pcX (p : PcM) : Bool := ((((snB p.sn && decide (1 ≤ p.mn)) && decide (p.mn ≤ 64)) && decide (0 ≤ p.ix)) && decide (p.ix < p.mn)) && Ke p.ix p.mn p.b.length
theorem J8 (p : PcM) : pcX p = pcB p := by
 unfold pcX pcB
 by_cases h : 1 ≤ p.mn ∧ p.mn ≤ 64
 ·rw [X5 h]
 ·by_cases h1 : 1 ≤ p.mn
  ·rw [decide_eq_false (show ¬ p.mn ≤ 64 by omega)]
   simp
  ·rw [decide_eq_false h1]
   simp
def Kf (l : List (List Int)) : Bool := l.any fun b => !emp b
theorem WG {ps : List (List Int)} {k : Nat} (h : k < ps.length) : Kf (ps.take (k + 1)) = (Kf (ps.take k) || !emp ps[k]) := by
 unfold Kf
 rw [qbP h, List.any_append]
 simp
theorem anyNE_iff {l : List (List Int)} : Kf l = true ↔ ∃ i, ∃ h : i < l.length, emp l[i] = false := by
 unfold Kf
 rw [List.any_eq_true]
 constructor
 ·rintro ⟨b, hb, he⟩
  obtain ⟨i, hi, rfl⟩ := qcc hb
  exact ⟨i, hi, by simpa using he⟩
 ·rintro ⟨i, hi, he⟩
  exact ⟨l[i], qb9 hi, by rw [he]; rfl⟩
theorem HN {p : PiM} (h : p.sn = 0) : kH p = ((p.mn == 0) && ((p.ps.length : Int) == 0)) := by
 have e : noB p = ((p.mn == 0) && ((p.ps.length : Int) == 0)) := by
  unfold noB
  rw [h]
  rfl
 rw [← e]
 cases h2 : kH p with
 | false =>
  cases h3 : noB p with
  | false => rfl
  | true =>
   have := piOk_iff.2 (.inl h3)
   rw [this] at h2
   cases h2
 | true =>
  rcases piOk_iff.1 h2 with h3 | ⟨g1, ⟨i, hi, he⟩, _⟩
  ·exact h3.symm
  ·rcases g1 i hi with g | g
   ·rw [he] at g; cases g
   ·have := pcB_iff.1 g
    dsimp only at this
    omega
theorem HO {p : PiM} (h : p.sn ≠ 0) {k : Nat} (hk : k < p.ps.length) (h1 : emp p.ps[k] = false) (h2 : Ke k p.mn p.ps[k].length = false) : kH p = false := by
 cases h3 : kH p with
 | false => rfl
 | true =>
  rcases piOk_iff.1 h3 with g | ⟨g, _, _⟩
  ·rw [noB_iff.1 g] at h
   exact absurd rfl h
  ·rcases g k hk with g | g
   ·rw [h1] at g; cases g
   ·rw [← J8] at g
    unfold pcX at g
    rw [qbu] at g
    rw [g.2] at h2
    cases h2
theorem Kg (b : List Int) : decide ((0 : Int) < (b.length : Int)) = !emp b := by
 unfold emp
 cases b with
 | nil => rfl
 | cons x r => simp; omega
theorem pcl_t {b : List Int} {x : Bool} (h : (decide ((0 : Int) < (b.length : Int)) && !x) = true) : emp b = false ∧ x = false := by
 rw [Kg] at h
 cases h1 : emp b <;> cases x <;> simp_all
theorem pcl_f {b : List Int} {x : Bool} (h : (decide ((0 : Int) < (b.length : Int)) && !x) = false) : emp b = true ∨ x = true := by
 rw [Kg] at h
 cases h1 : emp b <;> cases x <;> simp_all
theorem qbf (x : Bool) (b : List Int) : some (D.val (.bool (x || decide ((0 : Int) < (b.length : Int))))) = some (D.val (.bool (x || !emp b))) := by rw [Kg]
def piX (p : PiM) : Bool := (((snB p.sn && decide (1 ≤ p.mn)) && decide (p.mn ≤ 64)) && ((p.ps.length : Int) == p.mn)) && Kf p.ps
theorem HP {p : PiM} (h : p.sn ≠ 0) (hall : ∀ i, ∀ hi : i < p.ps.length, emp p.ps[i] = true ∨ Ke i p.mn p.ps[i].length = true) : piX p = kH p := by
 rw [Bool.eq_iff_iff]
 unfold piX
 simp only [qbu, decide_eq_true_eq, beq_iff_eq]
 rw [piOk_iff]
 constructor
 ·rintro ⟨⟨⟨⟨a, b⟩, c⟩, d⟩, e⟩
  refine .inr ⟨fun i hi => ?_, anyNE_iff.1 e, d⟩
  rcases hall i hi with g | g
  ·exact .inl g
  ·refine .inr ?_
   rw [← J8]
   unfold pcX
   rw [a, g]
   simp
   omega
 ·rintro (g | ⟨g1, g2, g3⟩)
  ·rw [noB_iff.1 g] at h
   exact absurd rfl h
  ·obtain ⟨i, hi, he⟩ := g2
   rcases g1 i hi with g | g
   ·rw [he] at g; cases g
   ·rw [← J8] at g
    unfold pcX at g
    simp only [qbu, decide_eq_true_eq] at g
    exact ⟨⟨⟨⟨g.1.1.1.1.1, g.1.1.1.1.2⟩, g.1.1.1.2⟩, g3⟩, anyNE_iff.2 ⟨i, hi, he⟩⟩
theorem X6 (i m n : Int) : DFun Tryz.prog 68 [.val (.int .i64 i), .val (.int .i64 m), .val (.int .i64 n)] [] (.val (.bool (Ke i m n))) [] := by
 refine zap (N := 23) 0 (by kernel_rfl) Tryz.func68 rfl rfl rfl (by simp only [fr0, qbs, qbt]; exact rfl) rfl fun s0 hs0 => ?_
 refine zah ?_
 refine zaa 1 rfl ?_
 refine zab ?_
 refine zah ?_
 refine zaa 1 rfl ?_
 refine za rfl (qm rfl (ev1 rfl) (ev1 rfl)) ?_
 refine zaa 1 rfl ?_
 refine zai (qe rfl rfl rfl) rfl rfl rfl (zal (.inl rfl) (ev1 rfl)) ?_
 refine zai (qe rfl rfl rfl) rfl rfl rfl (zal (.inl rfl) (ev1 rfl)) ?_
 refine zai (qe rfl rfl rfl) rfl rfl rfl (WS rfl (ev2 rfl) (ev1 rfl)) ?_
 refine zai (qe rfl rfl rfl) rfl rfl rfl (qm rfl (ev2 rfl) (ev2 rfl)) ?_
 refine zai (qe rfl rfl rfl) rfl rfl rfl (zal (.inl rfl) (ev2 rfl)) ?_
 refine zai (qO rfl rfl rfl) rfl rfl rfl (zal (.inl rfl) (ev1 rfl)) ?_
 refine zai (qO rfl rfl rfl) rfl rfl rfl (jh rfl (ev2 rfl) (ev1 rfl)) ?_
 refine zai (qe rfl rfl rfl) rfl rfl rfl (qC rfl (ev2 rfl) (ev2 rfl)) ?_
 refine zai (qe rfl rfl rfl) rfl rfl rfl (zal (.inl rfl) (ev2 rfl)) ?_
 refine zai (qO rfl rfl rfl) rfl rfl rfl (zal (.inl rfl) (ev1 rfl)) ?_
 refine zai (qO rfl rfl rfl) rfl rfl rfl (qv rfl (ev2 rfl) (ev1 rfl)) ?_
 refine zai (qe rfl rfl rfl) rfl rfl rfl (qC rfl (ev2 rfl) (ev2 rfl)) ?_
 refine za rfl (kx rfl (ev1 rfl) (ev3 rfl id)) ?_
 refine zaa 1 rfl ?_
 refine zab ?_
 refine qa ?_
 refine qx (rs1 rfl (qL rfl)) rfl ?_
 rfl
theorem yr (p : PcM) : DFun Tryz.prog 29 [.agg (pcD p)] [] (.val (.bool (pcB p))) [] := by
 refine zap (N := 38) 0 (by kernel_rfl) Tryz.func29 rfl rfl rfl (by simp only [fr0, qbs, qbt]; exact rfl) rfl fun s0 hs0 => ?_
 refine zae ?_
 refine zao 1 ?_
 refine zac ?_
 refine zak rfl (qd 0 rfl (ev1 rfl) rfl) ?_
 refine zaa 1 rfl ?_
 refine zab ?_
 refine zah ?_
 refine za rfl (zam rfl kN (ev1 rfl)) ?_
 refine za rfl (zan rfl qZ (ev1 rfl) rfl rfl) ?_
 refine za rfl (zaj [] [] [] rfl (ev1 rfl) (ec (ev1 rfl) en) rfl rfl (Vv _) rfl rfl rfl rfl rfl rfl) ?_
 refine zaa 1 rfl ?_
 refine zai (qn rfl rfl rfl) rfl rfl rfl (zam rfl k9 (ev1 rfl)) ?_
 refine zai (qn rfl rfl rfl) rfl rfl rfl (zan rfl tb3 (ev2 rfl) rfl rfl) ?_
 refine zai (qn rfl rfl rfl) rfl rfl rfl (jh rfl (ev2 rfl) (ev1 rfl)) ?_
 refine za rfl (qC rfl (ev1 rfl) (ev3 rfl id)) ?_
 refine zaa 1 rfl ?_
 refine zai (qn rfl rfl rfl) rfl rfl rfl (zam rfl k9 (ev1 rfl)) ?_
 refine zai (qn rfl rfl rfl) rfl rfl rfl (zan rfl tb3 (ev2 rfl) rfl rfl) ?_
 refine zai (qn rfl rfl rfl) rfl rfl rfl (y3 rfl (ev2 rfl) (ev1 rfl)) ?_
 refine za rfl (qC rfl (ev1 rfl) (ev3 rfl id)) ?_
 refine zaa 1 rfl ?_
 refine zai (qn rfl rfl rfl) rfl rfl rfl (zam rfl jv (ev1 rfl)) ?_
 refine zai (qn rfl rfl rfl) rfl rfl rfl (zan rfl tb3 (ev2 rfl) rfl rfl) ?_
 refine zai (qn rfl rfl rfl) rfl rfl rfl (jh rfl (ev2 rfl) (ev1 rfl)) ?_
 refine za rfl (qC rfl (ev1 rfl) (ev3 rfl id)) ?_
 refine zaa 1 rfl ?_
 refine zai (qn rfl rfl rfl) rfl rfl rfl (zam rfl jv (ev1 rfl)) ?_
 refine zai (qn rfl rfl rfl) rfl rfl rfl (zan rfl tb3 (ev2 rfl) rfl rfl) ?_
 refine zai (qn rfl rfl rfl) rfl rfl rfl (zam rfl k9 (ev1 rfl)) ?_
 refine zai (qn rfl rfl rfl) rfl rfl rfl (zan rfl tb3 (ev2 rfl) rfl rfl) ?_
 refine zai (qn rfl rfl rfl) rfl rfl rfl (qv rfl (ev2 rfl) (ev2 rfl)) ?_
 refine za rfl (qC rfl (ev1 rfl) (ev3 rfl id)) ?_
 refine zaa 1 rfl ?_
 refine zai (qn rfl rfl rfl) rfl rfl rfl (zam rfl jv (ev1 rfl)) ?_
 refine zai (qn rfl rfl rfl) rfl rfl rfl (zan rfl tb3 (ev2 rfl) rfl rfl) ?_
 refine zai (qn rfl rfl rfl) rfl rfl rfl (zam rfl k9 (ev1 rfl)) ?_
 refine zai (qn rfl rfl rfl) rfl rfl rfl (zan rfl tb3 (ev2 rfl) rfl rfl) ?_
 refine zai (qn rfl rfl rfl) rfl rfl rfl (zam rfl yd (ev1 rfl)) ?_
 refine zai (qn rfl rfl rfl) rfl rfl rfl (zan rfl kD (ev2 rfl) rfl rfl) ?_
 refine zai (qn rfl rfl rfl) rfl rfl rfl (qE rfl qG (ev2 rfl)) ?_
 refine zai (qn rfl rfl rfl) rfl rfl rfl (zaj [] [] [] rfl (ev1 rfl) (ec (ev2 rfl) (ec (ev2 rfl) (ec (ev2 rfl) en))) rfl rfl (X6 _ _ _) rfl rfl rfl rfl rfl rfl) ?_
 refine za rfl (qC rfl (ev1 rfl) (ev3 rfl id)) ?_
 refine zaa 1 rfl ?_
 refine zab ?_
 refine qa ?_
 refine qx (rs1 rfl (qL rfl)) rfl ?_
 rw [← J8]
 rfl
theorem Vw (p : PiM) (hn : p.ps.length ≤ 5000) : DFun Tryz.prog 27 [.agg (piD p)] [] (.val (.bool (kH p))) [] := by
 refine zap (N := 69) 0 (by kernel_rfl) Tryz.func27 rfl rfl rfl (by simp only [fr0, qbs, qbt]; exact rfl) rfl fun s0 hs0 => ?_
 refine zae ?_
 refine zao 1 ?_
 refine zac ?_
 refine zak rfl (qd 0 rfl (ev1 rfl) rfl) ?_
 refine zaa 1 rfl ?_
 refine zab ?_
 refine zae ?_
 refine zah ?_
 refine za rfl (zam rfl kQ (ev1 rfl)) ?_
 refine za rfl (zan rfl qZ (ev1 rfl) rfl rfl) ?_
 refine za rfl (qm rfl (ev1 rfl) (ev1 rfl)) ?_
 refine zab ?_
 refine qh rfl (fun c1 => ?_) (fun c1 => ?_)
 ·have hs : p.sn = 0 := by simpa using c1
  refine zah ?_
  refine za rfl (zam rfl jw (ev1 rfl)) ?_
  refine za rfl (zan rfl tb3 (ev1 rfl) rfl rfl) ?_
  refine za rfl (qm rfl (ev1 rfl) (ev1 rfl)) ?_
  refine zaa 1 rfl ?_
  refine zai (qn rfl rfl rfl) rfl rfl rfl (zam rfl kt (ev1 rfl)) ?_
  refine zai (qn rfl rfl rfl) rfl rfl rfl (zan rfl jp (ev2 rfl) rfl rfl) ?_
  refine zai (qn rfl rfl rfl) rfl rfl rfl (kE rfl kO (ev2 rfl)) ?_
  refine zai (qn rfl rfl rfl) rfl rfl rfl (qm rfl (ev2 rfl) (ev1 rfl)) ?_
  refine za rfl (qC rfl (ev1 rfl) (ev3 rfl id)) ?_
  refine zaa 1 rfl ?_
  refine zab ?_
  refine qa ?_
  refine qx (rs1 rfl (qL rfl)) rfl ?_
  rw [HN hs]
 ·have hs : p.sn ≠ 0 := by simpa using c1
  refine zar ?_
  refine zah ?_
  refine zaa 1 rfl ?_
  refine zab ?_
  refine zae ?_
  refine zah ?_
  refine za rfl (zam rfl kt (ev1 rfl)) ?_
  refine za rfl (zan rfl jp (ev1 rfl) rfl rfl) ?_
  refine za rfl (kE rfl kO (ev1 rfl)) ?_
  refine zaa 1 rfl ?_
  refine zab ?_
  refine zat ?_
  refine qI ⟨hs0, rfl⟩ (α := Nat) (fun k => [(3, .val (.bool (Kf (p.ps.take k)))), (21, .val (.int .i64 (k : Int)))]) [(1, _), (19, _), (20, _)] (fun k => []) [_] (fun k => k ≤ p.ps.length ∧ ∀ i, ∀ hi : i < p.ps.length, i < k → emp p.ps[i] = true ∨ Ke i p.mn p.ps[i].length = true) (fun k => p.ps.length - k) 0 [0] (⟨qb3 _, fun i _ hi => absurd hi (Nat.not_lt_zero i)⟩) rfl ⟨rfl, rfl, rfl, trivial⟩ ⟨rfl, rfl, trivial⟩ ⟨rfl, trivial⟩ ?_
  intro k hx
  simp only [upd, zaf, zag, qbD, qbF]
  obtain ⟨hk, hall⟩ := hx
  refine zah ?_
  refine za rfl (qv rfl (ev1 rfl) (ev1 rfl)) ?_
  refine zab ?_
  refine zae ?_
  refine qh rfl (fun c2 => ?_) (fun c2 => ?_)
  ·try simp only [decide_eq_true_eq, decide_eq_false_iff_not, beq_iff_eq, bne_iff_ne, beq_eq_false_iff_ne, bne_eq_false_iff_eq, qbx, qby, qbu, qbE, qbv, ne_eq, Decidable.not_not, qbQ, qbR] at c2
   refine zar ?_
   refine zae ?_
   refine zat ?_
   refine zah ?_
   refine zaa 1 rfl ?_
   refine za rfl (gd (k) rfl kO (ev1 rfl) (ev1 rfl) (fun _ => rfl) (jO (by omega))) ?_
   refine za rfl (jk rfl kD (ev1 rfl) rfl) ?_
   refine zaa 2 rfl ?_
   refine zab ?_
   refine zae ?_
   refine zah ?_
   refine zaa 1 rfl ?_
   refine za rfl (qE rfl qG (ev1 rfl)) ?_
   refine za rfl (kA rfl (ev1 rfl) (ev1 rfl)) ?_
   refine zaa 1 rfl ?_
   refine zai (qn rfl rfl rfl) rfl rfl rfl (zal (.inl rfl) (ev1 rfl)) ?_
   refine zai (qn rfl rfl rfl) rfl rfl rfl (zam rfl jw (ev1 rfl)) ?_
   refine zai (qn rfl rfl rfl) rfl rfl rfl (zan rfl tb3 (ev2 rfl) rfl rfl) ?_
   refine zai (qn rfl rfl rfl) rfl rfl rfl (zal (.inl rfl) (ev1 rfl)) ?_
   refine zai (qn rfl rfl rfl) rfl rfl rfl (qE rfl qG (ev2 rfl)) ?_
   refine zai (qn rfl rfl rfl) rfl rfl rfl (zaj [] [] [] rfl (ev1 rfl) (ec (ev2 rfl) (ec (ev2 rfl) (ec (ev2 rfl) en))) rfl rfl (X6 _ _ _) rfl rfl rfl rfl rfl rfl) ?_
   refine zai (qn rfl rfl rfl) rfl rfl rfl (kv rfl (ev2 rfl)) ?_
   refine za rfl (qC rfl (ev1 rfl) (ev3 rfl id)) ?_
   refine zab ?_
   refine qh rfl (fun c3 => ?_) (fun c3 => ?_)
   ·obtain ⟨hne, hpx⟩ := (pcl_t c3)
    refine zah ?_
    refine zaa 1 rfl ?_
    refine zab ?_
    refine qa ?_
    refine qx (rs1 rfl (qL rfl)) rfl ?_
    rw [HO hs (by omega) hne hpx]
   ·have hth := (pcl_f c3)
    refine zar ?_
    refine zac ?_
    refine zaa 2 rfl ?_
    refine zai (qe rfl rfl rfl) rfl rfl rfl (zal (.inl rfl) (ev1 rfl)) ?_
    refine zai (qe rfl rfl rfl) rfl rfl rfl (qE rfl qG (ev2 rfl)) ?_
    refine zai (qe rfl rfl rfl) rfl rfl rfl (kA rfl (ev2 rfl) (ev1 rfl)) ?_
    refine za rfl (kx rfl (ev1 rfl) (ev3 rfl id)) ?_
    refine zaa 1 rfl ?_
    refine zab ?_
    refine zac ?_
    refine za rfl (ql rfl (ev1 rfl) (ev1 rfl) (fun _ => qbB _ (by omega))) ?_
    refine zaa 1 rfl ?_
    refine zab ?_
    refine ⟨k + 1, [0], ⟨by omega, fun i hi h2 => by
    by_cases e : i = k
    ·subst e; exact hth
    ·exact hall i hi (by omega)⟩, by simp only []; omega, rfl, ⟨by rw [WG (by omega)]; exact qbf _ _, rfl, rfl, rfl, rfl, trivial⟩, ⟨rfl, trivial⟩⟩
  ·try simp only [decide_eq_true_eq, decide_eq_false_iff_not, beq_iff_eq, bne_iff_ne, beq_eq_false_iff_ne, bne_eq_false_iff_eq, qbx, qby, qbu, qbE, qbv, ne_eq, Decidable.not_not, qbQ, qbR] at c2
   refine qD ?_
   refine zah ?_
   refine za rfl (zam rfl kQ (ev1 rfl)) ?_
   refine za rfl (zan rfl qZ (ev1 rfl) rfl rfl) ?_
   refine za rfl (zaj [] [] [] rfl (ev1 rfl) (ec (ev1 rfl) en) rfl rfl (Vv _) rfl rfl rfl rfl rfl rfl) ?_
   refine zaa 1 rfl ?_
   refine zai (qn rfl rfl rfl) rfl rfl rfl (zam rfl jw (ev1 rfl)) ?_
   refine zai (qn rfl rfl rfl) rfl rfl rfl (zan rfl tb3 (ev2 rfl) rfl rfl) ?_
   refine zai (qn rfl rfl rfl) rfl rfl rfl (jh rfl (ev2 rfl) (ev1 rfl)) ?_
   refine za rfl (qC rfl (ev1 rfl) (ev3 rfl id)) ?_
   refine zaa 1 rfl ?_
   refine zai (qn rfl rfl rfl) rfl rfl rfl (zam rfl jw (ev1 rfl)) ?_
   refine zai (qn rfl rfl rfl) rfl rfl rfl (zan rfl tb3 (ev2 rfl) rfl rfl) ?_
   refine zai (qn rfl rfl rfl) rfl rfl rfl (y3 rfl (ev2 rfl) (ev1 rfl)) ?_
   refine za rfl (qC rfl (ev1 rfl) (ev3 rfl id)) ?_
   refine zaa 1 rfl ?_
   refine zai (qn rfl rfl rfl) rfl rfl rfl (zam rfl kt (ev1 rfl)) ?_
   refine zai (qn rfl rfl rfl) rfl rfl rfl (zan rfl jp (ev2 rfl) rfl rfl) ?_
   refine zai (qn rfl rfl rfl) rfl rfl rfl (kE rfl kO (ev2 rfl)) ?_
   refine zai (qn rfl rfl rfl) rfl rfl rfl (zam rfl jw (ev1 rfl)) ?_
   refine zai (qn rfl rfl rfl) rfl rfl rfl (zan rfl tb3 (ev2 rfl) rfl rfl) ?_
   refine zai (qn rfl rfl rfl) rfl rfl rfl (qm rfl (ev2 rfl) (ev2 rfl)) ?_
   refine za rfl (qC rfl (ev1 rfl) (ev3 rfl id)) ?_
   refine zaa 1 rfl ?_
   refine zai (qn rfl rfl rfl) rfl rfl rfl (zal (.inl rfl) (ev1 rfl)) ?_
   refine za rfl (qC rfl (ev1 rfl) (ev3 rfl id)) ?_
   refine zaa 1 rfl ?_
   refine zab ?_
   refine qa ?_
   refine qx (rs1 rfl (qL rfl)) rfl ?_
   rw [← HP hs (fun i hi => hall i hi (by omega)), qbT (by omega)]
   rfl
end Go.Proofs.YtofklkbfkoliiaaGreat
namespace Go.Proofs.YtofklkbfkoliiaaGreat
set_option linter.unusedVariables false
set_option linter.unusedSimpArgs false
open Go.RowKit
attribute [local irreducible] tkN jC kG kH
theorem y8 {α β : Type} (f : α → β) {l : List α} {k : Nat} (h : k < l.length) : (l.take (k + 1)).map f = (l.take k).map f ++ [f l[k]] := by
 rw [qbP h, List.map_append]
 rfl
theorem samePi_iff {p q : PiM} : decide (p = q) = true ↔ (p.sn = q.sn ∧ p.mn = q.mn) ∧ p.ps = q.ps := by
 obtain ⟨a, b, c⟩ := p
 obtain ⟨d, e, f⟩ := q
 rw [decide_eq_true_eq, PiM.mk.injEq]
 constructor
 ·rintro ⟨h1, h2, h3⟩
  exact ⟨⟨h1, h2⟩, h3⟩
 ·rintro ⟨⟨h1, h2⟩, h3⟩
  exact ⟨h1, h2, h3⟩
def dNx (p : PiM) : Int := if 0 ≤ jD p.ps 0 then jD p.ps 0 else if p.mn = 0 then 0 else -1
def kC (p : PiM) : PiM := ⟨p.sn, p.mn, (p.ps.take 66).map fun b => b.take 300⟩
theorem YA {ps : List (List Int)} {k : Nat} (h : ps.length ≤ k) : (ps.take k).map (fun b : List Int => b.take 300) = ps.map fun b => b.take 300 := by
 rw [qbT h]
theorem YB {ps : List (List Int)} {k : Nat} (h : k < ps.length) : (ps.take (k + 1)).map (fun b : List Int => b.take 300) = ((ps.take k).map fun b => b.take 300) ++ [ps[k].take 300] := y8 _ h
theorem qbg {σ : List Nat} {V : Nat → Bool} {M : List Blk} {T : TypeId} {l l' : List (List Int)} {b : List Int} {n : Nat} (hl : l' = l ++ [b]) (hn : n = l'.length) : (vwL σ V M ((l.flatMap fun b => [rwB b]) ++ [rwB b])).map (Blk.arx T 1 n) = some (Blk.arx T 1 l'.length (l'.flatMap fun b => [rwB b])) := by
 subst hl
 have e : (l.flatMap fun b => [rwB b]) ++ [rwB b] = (l ++ [b]).flatMap fun b => [rwB b] := by rw [List.flatMap_append]; rfl
 rw [e]
 exact qp hn rfl (fun _ => rfl)
def X7 (x : PcM) : PcM := ⟨x.sn, x.ix, x.mn, x.b.take 300⟩
def ku (l : List PcM) : List PcM := (l.take 12).map X7
theorem HQ {p : PiM} {k : Nat} (h : jD p.ps 0 = (k : Int)) : dNx p = (k : Int) := by
 unfold dNx
 rw [h, if_pos (by omega)]
theorem AK {p : PiM} (h : jD p.ps 0 = -1) : dNx p = if p.mn = 0 then 0 else -1 := by
 unfold dNx
 rw [h, if_neg (by decide)]
theorem Jh (p q : PiM) (hn : p.ps.length ≤ 5000) : DFun Tryz.prog 32 [.agg (piD p), .agg (piD q)] [] (.val (.bool (decide (p = q)))) [] := by
 refine zap (N := 45) 0 (by kernel_rfl) Tryz.func32 rfl rfl rfl (by simp only [fr0, qbs, qbt]; exact rfl) rfl fun s0 hs0 => ?_
 refine zae ?_
 refine zao 2 ?_
 refine zac ?_
 refine zak rfl (qd 0 rfl (ev1 rfl) rfl) ?_
 refine zak rfl (qd 1 rfl (ev1 rfl) rfl) ?_
 refine zaa 1 rfl ?_
 refine zab ?_
 refine zae ?_
 refine zah ?_
 refine za rfl (zam rfl kQ (ev1 rfl)) ?_
 refine za rfl (zan rfl qZ (ev1 rfl) rfl rfl) ?_
 refine za rfl (zam rfl kQ (ev1 rfl)) ?_
 refine za rfl (zan rfl qZ (ev1 rfl) rfl rfl) ?_
 refine za rfl (qT rfl (ev1 rfl) (ev1 rfl)) ?_
 refine zaa 1 rfl ?_
 refine zai (qe rfl rfl rfl) rfl rfl rfl (zam rfl jw (ev1 rfl)) ?_
 refine zai (qe rfl rfl rfl) rfl rfl rfl (zan rfl tb3 (ev2 rfl) rfl rfl) ?_
 refine zai (qe rfl rfl rfl) rfl rfl rfl (zam rfl jw (ev1 rfl)) ?_
 refine zai (qe rfl rfl rfl) rfl rfl rfl (zan rfl tb3 (ev2 rfl) rfl rfl) ?_
 refine zai (qe rfl rfl rfl) rfl rfl rfl (qT rfl (ev2 rfl) (ev2 rfl)) ?_
 refine za rfl (kx rfl (ev1 rfl) (ev3 rfl id)) ?_
 refine zaa 1 rfl ?_
 refine zai (qe rfl rfl rfl) rfl rfl rfl (zam rfl kt (ev1 rfl)) ?_
 refine zai (qe rfl rfl rfl) rfl rfl rfl (zan rfl jp (ev2 rfl) rfl rfl) ?_
 refine zai (qe rfl rfl rfl) rfl rfl rfl (kE rfl kO (ev2 rfl)) ?_
 refine zai (qe rfl rfl rfl) rfl rfl rfl (zam rfl kt (ev1 rfl)) ?_
 refine zai (qe rfl rfl rfl) rfl rfl rfl (zan rfl jp (ev2 rfl) rfl rfl) ?_
 refine zai (qe rfl rfl rfl) rfl rfl rfl (kE rfl kO (ev2 rfl)) ?_
 refine zai (qe rfl rfl rfl) rfl rfl rfl (qT rfl (ev2 rfl) (ev2 rfl)) ?_
 refine za rfl (kx rfl (ev1 rfl) (ev3 rfl id)) ?_
 refine zab ?_
 refine qh rfl (fun c1 => ?_) (fun c1 => ?_)
 ·have hne : decide (p = q) = false := by
   rw [Bool.eq_false_iff]
   intro h
   have h := samePi_iff.1 h
   rw [h.1.1, h.1.2, h.2] at c1
   simp at c1
  refine zah ?_
  refine zaa 1 rfl ?_
  refine zab ?_
  refine qa ?_
  refine qx (rs1 rfl (qL rfl)) rfl ?_
  rw [hne]
 ·obtain ⟨⟨hsn, hmn⟩, hlen⟩ : (p.sn = q.sn ∧ p.mn = q.mn) ∧ p.ps.length = q.ps.length := by
   simp at c1
   omega
  refine zar ?_
  refine zae ?_
  refine zah ?_
  refine za rfl (zam rfl kt (ev1 rfl)) ?_
  refine za rfl (zan rfl jp (ev1 rfl) rfl rfl) ?_
  refine za rfl (kE rfl kO (ev1 rfl)) ?_
  refine zaa 1 rfl ?_
  refine zab ?_
  refine zat ?_
  refine qI ⟨hs0, rfl⟩ (α := Nat) (fun k => [(31, .val (.int .i64 (k : Int)))]) [(3, _), (29, _), (30, _)] (fun k => []) [_, _] (fun k => k ≤ p.ps.length ∧ p.ps.take k = q.ps.take k) (fun k => p.ps.length - k) 0 [0, 1] (⟨qb3 _, rfl⟩) rfl ⟨rfl, rfl, rfl, trivial⟩ ⟨rfl, trivial⟩ ⟨rfl, rfl, trivial⟩ ?_
  intro k hx
  simp only [upd, zaf, zag, qbD, qbF]
  obtain ⟨hk, he⟩ := hx
  refine zah ?_
  refine za rfl (qv rfl (ev1 rfl) (ev1 rfl)) ?_
  refine zab ?_
  refine zae ?_
  refine qh rfl (fun c2 => ?_) (fun c2 => ?_)
  ·try simp only [decide_eq_true_eq, decide_eq_false_iff_not, beq_iff_eq, bne_iff_ne, beq_eq_false_iff_ne, bne_eq_false_iff_eq, qbx, qby, qbu, qbE, qbv, ne_eq, Decidable.not_not, qbQ, qbR] at c2
   refine zar ?_
   refine zae ?_
   refine zat ?_
   refine zah ?_
   refine zaa 1 rfl ?_
   refine za rfl (gd (k) rfl kO (ev1 rfl) (ev1 rfl) (fun _ => rfl) (jO (by omega))) ?_
   refine za rfl (jk rfl kD (ev1 rfl) rfl) ?_
   refine zaa 2 rfl ?_
   refine zab ?_
   refine zah ?_
   refine zaa 1 rfl ?_
   refine za rfl (zam rfl kt (ev1 rfl)) ?_
   refine za rfl (zan rfl jp (ev1 rfl) rfl rfl) ?_
   refine zaa 1 rfl ?_
   refine za rfl (gd (k) rfl kO (ev1 rfl) (ev1 rfl) (fun _ => rfl) (jO (by omega))) ?_
   refine za rfl (jk rfl kD (ev1 rfl) rfl) ?_
   refine za rfl (zaj [] [] [] rfl (ev1 rfl) (ec (ev1 rfl) (ec (ev1 rfl) en)) rfl rfl (Vu _ _) rfl rfl rfl rfl rfl rfl) ?_
   refine za rfl (kv rfl (ev1 rfl)) ?_
   refine zab ?_
   refine qh rfl (fun c2 => ?_) (fun c2 => ?_)
   ·have c3 : p.ps[k] ≠ q.ps[k] := by simpa using c2
    refine zah ?_
    refine zaa 1 rfl ?_
    refine zab ?_
    refine qa ?_
    refine qx (rs1 rfl (qL rfl)) rfl ?_
    have hne : decide (p = q) = false := by
     rw [decide_eq_false_iff_not]
     intro e
     subst e
     exact c3 rfl
    rw [hne]
   ·have c3 : p.ps[k] = q.ps[k] := by simpa using c2
    refine zar ?_
    refine zac ?_
    refine za rfl (ql rfl (ev1 rfl) (ev1 rfl) (fun _ => qbB _ (by omega))) ?_
    refine zaa 1 rfl ?_
    refine zab ?_
    refine ⟨k + 1, [0, 1], ⟨by omega, by rw [qbP (by omega), qbP (by omega), he, c3]⟩, by simp only []; omega, rfl, ⟨rfl, rfl, rfl, rfl, trivial⟩, ⟨rfl, rfl, trivial⟩⟩
  ·try simp only [decide_eq_true_eq, decide_eq_false_iff_not, beq_iff_eq, bne_iff_ne, beq_eq_false_iff_ne, bne_eq_false_iff_eq, qbx, qby, qbu, qbE, qbv, ne_eq, Decidable.not_not, qbQ, qbR] at c2
   refine qD ?_
   refine zah ?_
   refine zaa 1 rfl ?_
   refine zab ?_
   refine qa ?_
   refine qx (rs1 rfl (qL rfl)) rfl ?_
   have e : p.ps = q.ps := by
    have h := he
    rw [qbT (by omega), qbT (by omega)] at h
    exact h
   rw [samePi_iff.2 ⟨⟨hsn, hmn⟩, e⟩]
theorem Vx (p : PiM) (hn : p.ps.length ≤ 5000) : DFun Tryz.prog 34 [.agg (piD p)] [] (.val (.int .i64 (dNx p))) [] := by
 refine zap (N := 21) 0 (by kernel_rfl) Tryz.func34 rfl rfl rfl (by simp only [fr0, qbs, qbt]; exact rfl) rfl fun s0 hs0 => ?_
 refine zae ?_
 refine zao 1 ?_
 refine zac ?_
 refine zak rfl (qd 0 rfl (ev1 rfl) rfl) ?_
 refine zaa 1 rfl ?_
 refine zab ?_
 refine zae ?_
 refine zah ?_
 refine za rfl (zam rfl kt (ev1 rfl)) ?_
 refine za rfl (zan rfl jp (ev1 rfl) rfl rfl) ?_
 refine za rfl (kE rfl kO (ev1 rfl)) ?_
 refine zaa 1 rfl ?_
 refine zab ?_
 refine zat ?_
 refine qI ⟨hs0, rfl⟩ (α := Nat) (fun k => [(8, .val (.int .i64 (k : Int)))]) [(1, _), (6, _), (7, _)] (fun k => []) [_] (fun k => k ≤ p.ps.length ∧ jD p.ps 0 = jD (p.ps.drop k) (k : Int)) (fun k => p.ps.length - k) 0 [0] (by simp) rfl ⟨rfl, rfl, rfl, trivial⟩ ⟨rfl, trivial⟩ ⟨rfl, trivial⟩ ?_
 intro k hx
 simp only [upd, zaf, zag, qbD, qbF]
 obtain ⟨hk, he⟩ := hx
 refine zah ?_
 refine za rfl (qv rfl (ev1 rfl) (ev1 rfl)) ?_
 refine zab ?_
 refine zae ?_
 refine qh rfl (fun c1 => ?_) (fun c1 => ?_)
 ·try simp only [decide_eq_true_eq, decide_eq_false_iff_not, beq_iff_eq, bne_iff_ne, beq_eq_false_iff_ne, bne_eq_false_iff_eq, qbx, qby, qbu, qbE, qbv, ne_eq, Decidable.not_not, qbQ, qbR] at c1
  refine zar ?_
  refine zae ?_
  refine zat ?_
  refine zah ?_
  refine zaa 1 rfl ?_
  refine za rfl (gd (k) rfl kO (ev1 rfl) (ev1 rfl) (fun _ => rfl) (jO (by omega))) ?_
  refine za rfl (jk rfl kD (ev1 rfl) rfl) ?_
  refine zaa 2 rfl ?_
  refine zab ?_
  refine zah ?_
  refine zaa 1 rfl ?_
  refine za rfl (qE rfl qG (ev1 rfl)) ?_
  refine za rfl (qm rfl (ev1 rfl) (ev1 rfl)) ?_
  refine zab ?_
  refine qh rfl (fun c2 => ?_) (fun c2 => ?_)
  ·have c2 : emp p.ps[k] = true := c2
   refine zah ?_
   refine zaa 2 rfl ?_
   refine zab ?_
   refine qa ?_
   refine qx (rs1 rfl (qL rfl)) rfl ?_
   rw [HQ (by rw [he, vM (by omega), if_pos c2])]
  ·have c2 : emp p.ps[k] = false := c2
   refine zar ?_
   refine zac ?_
   refine za rfl (ql rfl (ev1 rfl) (ev1 rfl) (fun _ => qbB _ (by omega))) ?_
   refine zaa 1 rfl ?_
   refine zab ?_
   refine ⟨k + 1, [0], ⟨by omega, by rw [he, vM (by omega), if_neg (by rw [c2]; decide)]⟩, by simp only []; omega, rfl, ⟨rfl, rfl, rfl, rfl, trivial⟩, ⟨rfl, trivial⟩⟩
 ·try simp only [decide_eq_true_eq, decide_eq_false_iff_not, beq_iff_eq, bne_iff_ne, beq_eq_false_iff_ne, bne_eq_false_iff_eq, qbx, qby, qbu, qbE, qbv, ne_eq, Decidable.not_not, qbQ, qbR] at c1
  refine qD ?_
  refine zae ?_
  refine zah ?_
  refine za rfl (zam rfl jw (ev1 rfl)) ?_
  refine za rfl (zan rfl tb3 (ev1 rfl) rfl rfl) ?_
  refine za rfl (qm rfl (ev1 rfl) (ev1 rfl)) ?_
  refine zab ?_
  refine qh rfl (fun c4 => ?_) (fun c4 => ?_)
  ·refine zah ?_
   refine zaa 1 rfl ?_
   refine zab ?_
   refine qa ?_
   refine qx (rs1 rfl (qL rfl)) rfl ?_
   rw [AK (by rw [he, xo (by omega)]), if_pos (by simpa using c4)]
  ·refine zar ?_
   refine zah ?_
   refine zaa 1 rfl ?_
   refine zab ?_
   refine qa ?_
   refine qx (rs1 rfl (qL rfl)) rfl ?_
   rw [AK (by rw [he, xo (by omega)]), if_neg (by simpa using c4)]
theorem own_d (p : PiM) : DFun Tryz.prog 25 [.agg (piD p)] [] (.agg [.val (.int .u64 p.sn), .val (.int .i64 p.mn), .arr 0]) [.arx 30 1 ((kC p).ps).length (((kC p).ps).flatMap fun b => [rwB b])] := by
 refine zap (N := 33) 0 (by kernel_rfl) Tryz.func25 rfl rfl rfl (by simp only [fr0, qbs, qbt]; exact rfl) rfl fun s0 hs0 => ?_
 refine zae ?_
 refine zao 2 ?_
 refine zac ?_
 refine zak rfl (qd 0 rfl (ev1 rfl) rfl) ?_
 refine zak rfl (zaq 1 rfl jR rfl) ?_
 refine zab ?_
 refine zah ?_
 refine za rfl (zam rfl kt (ev1 rfl)) ?_
 refine za rfl (zan rfl jp (ev1 rfl) rfl rfl) ?_
 refine za rfl (zam rfl kt (ev1 rfl)) ?_
 refine za rfl (zan rfl jp (ev1 rfl) rfl rfl) ?_
 refine za rfl (kE rfl kO (ev1 rfl)) ?_
 refine za rfl (we rfl (ev1 rfl) (ev1 rfl)) ?_
 refine za rfl ((GN (j := min p.ps.length 66) rfl kO (ev1 rfl) (jf (ev1 rfl)) (fun _ => by omega) (fun _ => by omega) (fun _ => rfl)).cast (d' := .slm 1 ((p.ps.take 66)).length (((p.ps.take 66)).flatMap fun b => [rwB b])) (by rw [JV])) ?_
 refine zaa 1 rfl ?_
 refine zab ?_
 refine zah ?_
 refine za rfl (zam rfl kt (ev1 rfl)) ?_
 refine zas rfl (kJ rfl jp (ev1 rfl) (ev1 rfl) (fun s v h => by cases h <;> exact ⟨rfl, rfl⟩) rfl (by first | decide | exact qbA rfl | simp)) ?_
 refine zab ?_
 refine zae ?_
 refine zae ?_
 refine yR (l' := [.val (.int .u64 p.sn), .val (.int .i64 p.mn), .arr 2]) 0 2 30 1 rfl rfl rfl rfl (by simp only [qbD, qbF, zaf, zag]; exact rfl) ?_
 refine zac ?_
 refine zaa 1 rfl ?_
 refine za rfl (kE rfl kO (ev1 rfl)) ?_
 refine zaa 1 rfl ?_
 refine zab ?_
 refine zat ?_
 refine qI ⟨hs0, rfl⟩ (α := Nat) (fun k => [(16, .val (.int .i64 (k : Int)))]) [(1, _), (2, _), (14, _), (15, _)] (fun k => [(2, .arx 30 1 ((((p.ps.take 66).take k).map fun b => b.take 300)).length (((((p.ps.take 66).take k).map fun b => b.take 300)).flatMap fun b => [rwB b]))]) [_, _, .hole] (fun k => k ≤ (p.ps.take 66).length) (fun k => (p.ps.take 66).length - k) 0 [0, 1, 2] (qb3 _) rfl ⟨rfl, rfl, rfl, rfl, trivial⟩ ⟨rfl, trivial⟩ ⟨rfl, rfl, by rfl, trivial⟩ ?_
 intro k hx
 simp only [upd, zaf, zag, qbD, qbF]
 have hk := hx
 have h66 : (p.ps.take 66).length ≤ 66 := by rw [qbS]; omega
 refine zah ?_
 refine za rfl (qv rfl (ev1 rfl) (ev1 rfl)) ?_
 refine zab ?_
 refine zae ?_
 refine qh rfl (fun c1 => ?_) (fun c1 => ?_)
 ·try simp only [decide_eq_true_eq, decide_eq_false_iff_not, beq_iff_eq, bne_iff_ne, beq_eq_false_iff_ne, bne_eq_false_iff_eq, qbx, qby, qbu, qbE, qbv, ne_eq, Decidable.not_not, qbQ, qbR] at c1
  refine zar ?_
  refine zae ?_
  refine zat ?_
  refine zah ?_
  refine za rfl (gd (k) rfl kO (ev1 rfl) (ev1 rfl) (fun _ => rfl) (jO (by omega))) ?_
  refine za rfl (jk rfl kD (ev1 rfl) rfl) ?_
  refine zaa 1 rfl ?_
  refine zab ?_
  refine zao 1 ?_
  refine qg [([], []), ([0], []), ([], []), ([], []), ([], []), ([], []), ([], []), ([], []), ([], []), ([2, 3], [2, 3]), ([], []), ([0], [0])] qP (by kernel_rfl) ?_
  refine zad rfl rfl (zam rfl kt (ev1 rfl)) ?_
  refine zad rfl rfl (zan rfl jp (ev1 rfl) rfl rfl) ?_
  refine zad rfl rfl (zal (.inl rfl) (ev1 rfl)) ?_
  refine zad rfl rfl (zal (.inl rfl) (ev1 rfl)) ?_
  refine zad rfl rfl (qE rfl qG (ev1 rfl)) ?_
  refine zad rfl rfl (we rfl (ev1 rfl) (ev1 rfl)) ?_
  refine zad rfl rfl ((JD (j := min (p.ps.take 66)[k].length 300) rfl qG (ev1 rfl) (jf (ev1 rfl)) (fun _ => by omega) (fun _ => by omega) (fun _ => rfl)).cast (d' := .slf 1 (((p.ps.take 66)[k].take 300)).length ((((p.ps.take 66)[k].take 300)).flatMap uc8)) (by rw [JV])) ?_
  refine zad rfl rfl (zaj [] [] [] rfl (ev1 rfl) (ec (ev1 rfl) en) rfl rfl (gS ((p.ps.take 66)[k].take 300) (by rw [qbS]; omega)) rfl rfl rfl rfl rfl rfl) ?_
  refine zad rfl rfl (YT (ps := [(0, .tmp 27)]) rfl kO uU rfl (ec (ev1 rfl) en) rfl (by decide)) ?_
  refine gE rfl rfl (QM (j := 3) rfl kO uU rfl (ev1 rfl) (ev1 rfl) rfl rfl rfl (fun _ => ⟨by simp; omega, by simp; omega⟩)) rfl (by simp only [upd, zaf, zag]; exact rfl) ?_
  refine zad rfl rfl (zam rfl kt (ev1 rfl)) ?_
  refine j0 rfl rfl (kJ rfl jp (ev1 rfl) (ev1 rfl) (fun s v h => by cases h <;> exact ⟨rfl, rfl⟩) rfl (by first | decide | exact qbA rfl | simp)) rfl (by simp only [upd, zaf, zag]; exact rfl) ?_
  refine qk ?_
  refine zac ?_
  refine za rfl (ql rfl (ev1 rfl) (ev1 rfl) (fun _ => qbB _ (by omega))) ?_
  refine zaa 1 rfl ?_
  refine zab ?_
  refine ⟨k + 1, [0, 1, 3], by omega, by simp only []; omega, rfl, ⟨rfl, rfl, rfl, rfl, rfl, trivial⟩, ⟨rfl, rfl, qbg (YB (by omega)) (by rw [YB (by omega), qbz]; rfl), trivial⟩⟩
 ·try simp only [decide_eq_true_eq, decide_eq_false_iff_not, beq_iff_eq, bne_iff_ne, beq_eq_false_iff_ne, bne_eq_false_iff_eq, qbx, qby, qbu, qbE, qbv, ne_eq, Decidable.not_not, qbQ, qbR] at c1
  refine qD ?_
  refine zah ?_
  refine za rfl (qb rfl qS (ev1 rfl) rfl rfl) ?_
  refine zas rfl (kw rfl qS (ev1 rfl) (ev1 rfl) rfl rfl rfl rfl) ?_
  refine zab ?_
  refine qa ?_
  refine ko [2] (rs1 rfl (y0 qS rfl rfl rfl)) rfl rfl ?_ ⟨?_, trivial⟩
  rfl
  exact qp (by rw [YA (by omega)]; rfl) (by rw [YA (by omega)]; rfl) (fun _ => rfl)
theorem X8 (p : PiM) : DFun Tryz.prog 25 [.agg (piD p)] [] (.agg (piD (kC p))) [] := yc (own_d p) wO
theorem Qu (l : List PcM) : DFun Tryz.prog 26 [.slm 4 (l).length ((l).flatMap pcD)] [] (.slm 4 ((ku l)).length (((ku l)).flatMap pcD)) [] := by
 refine zap (N := 31) 0 (by kernel_rfl) Tryz.func26 rfl rfl rfl (by simp only [fr0, qbs, qbt]; exact rfl) rfl fun s0 hs0 => ?_
 refine gM (t := 0) rfl fun hl0 hL0 => ?_
 refine zah ?_
 refine zaa 1 rfl ?_
 refine zab ?_
 refine zah ?_
 refine zaa 1 rfl ?_
 refine zab ?_
 refine zae ?_
 refine zah ?_
 refine zaa 2 rfl ?_
 refine za rfl (kE rfl ye (ev1 rfl)) ?_
 refine za rfl (we rfl (ev1 rfl) (ev1 rfl)) ?_
 refine za rfl ((GN (j := min l.length 12) rfl ye (ev1 rfl) (jf (ev1 rfl)) (fun _ => by omega) (fun _ => by omega) (fun _ => rfl)).cast (d' := .slm 4 ((l.take 12)).length (((l.take 12)).flatMap pcD)) (by rw [JV])) ?_
 refine za rfl (kE rfl ye (ev1 rfl)) ?_
 refine zaa 1 rfl ?_
 refine zab ?_
 refine zat ?_
 refine YX 3 53 4 rfl rfl rfl ?_
 refine qI ⟨hs0, rfl⟩ (α := Nat) (fun k => [(12, .val (.int .i64 (k : Int)))]) [(3, _), (10, _), (11, _)] (fun k => [(0, .arx 53 4 ((((l.take 12).take k).map X7).length) ((((l.take 12).take k).map X7).flatMap pcD))]) [.hole] (fun k => k ≤ (l.take 12).length) (fun k => (l.take 12).length - k) 0 [0] (qb3 _) rfl ⟨rfl, rfl, rfl, trivial⟩ ⟨rfl, trivial⟩ ⟨by rfl, trivial⟩ ?_
 intro k hx
 simp only [upd, zaf, zag, qbD, qbF]
 have hk := hx
 have h12 : (l.take 12).length ≤ 12 := by rw [qbS]; omega
 refine zah ?_
 refine za rfl (qv rfl (ev1 rfl) (ev1 rfl)) ?_
 refine zab ?_
 refine zae ?_
 refine qh rfl (fun c1 => ?_) (fun c1 => ?_)
 ·try simp only [decide_eq_true_eq, decide_eq_false_iff_not, beq_iff_eq, bne_iff_ne, beq_eq_false_iff_ne, bne_eq_false_iff_eq, qbx, qby, qbu, qbE, qbv, ne_eq, Decidable.not_not, qbQ, qbR] at c1
  refine zar ?_
  refine zae ?_
  refine zat ?_
  refine zae ?_
  refine zao 1 ?_
  refine zac ?_
  refine za rfl (gN (k) (by decide) rfl ye (ev1 rfl) (ev1 rfl) (fun _ => rfl) (by omega) (fun _ => rfl)) ?_
  refine za rfl (gO rfl kI (ev1 rfl) rfl rfl) ?_
  refine zak rfl (zaq 1 rfl wu rfl) ?_
  refine zas rfl (kw rfl kI (ev1 rfl) (ev1 rfl) rfl rfl rfl rfl) ?_
  refine zab ?_
  refine zah ?_
  refine za rfl (zam rfl yd (ev1 rfl)) ?_
  refine za rfl (zan rfl kD (ev1 rfl) rfl rfl) ?_
  refine za rfl (zam rfl yd (ev1 rfl)) ?_
  refine za rfl (zan rfl kD (ev1 rfl) rfl rfl) ?_
  refine za rfl (qE rfl qG (ev1 rfl)) ?_
  refine za rfl (we rfl (ev1 rfl) (ev1 rfl)) ?_
  refine za rfl ((JD (j := min (l.take 12)[k].b.length 300) rfl qG (ev1 rfl) (jf (ev1 rfl)) (fun _ => by omega) (fun _ => by omega) (fun _ => rfl)).cast (d' := .slf 1 (((l.take 12)[k].b.take 300)).length ((((l.take 12)[k].b.take 300)).flatMap uc8)) (by rw [JV])) ?_
  refine za rfl (zaj [] [] [] rfl (ev1 rfl) (ec (ev1 rfl) en) rfl rfl (gS ((l.take 12)[k].b.take 300) (by rw [qbS]; omega)) rfl rfl rfl rfl rfl rfl) ?_
  refine za rfl (zam rfl yd (ev1 rfl)) ?_
  refine zas rfl (kJ rfl kD (ev1 rfl) (ev1 rfl) (fun s v h => by cases h <;> exact ⟨rfl, rfl⟩) rfl (by first | decide | exact qbA rfl | simp)) ?_
  refine zab ?_
  refine zao 1 ?_
  refine zac ?_
  refine zaa 1 rfl ?_
  refine za rfl (qb rfl kI (ev1 rfl) rfl rfl) ?_
  refine za rfl (JI (ps := [(0, .tmp 26)]) rfl ye wu rfl (ec (ev1 rfl) en) rfl rfl rfl (by rfl) rfl (by decide) (by decide)) ?_
  refine zak rfl (JJ (j := 2) rfl ye wu rfl (ev1 rfl) (ev1 rfl) rfl rfl (rfl) (fun _ => ⟨by simp; omega, by simp; omega⟩)) ?_
  refine zaa 1 rfl ?_
  refine zab ?_
  refine zac ?_
  refine za rfl (ql rfl (ev1 rfl) (ev1 rfl) (fun _ => qbB _ (by omega))) ?_
  refine zaa 1 rfl ?_
  refine zab ?_
  refine ⟨k + 1, [2], by omega, by simp only []; omega, rfl, ⟨rfl, rfl, rfl, rfl, trivial⟩, ⟨kp (by rw [y8 X7 (by omega), qbz]; rfl) (by rw [y8 X7 (by omega), List.flatMap_append]; rfl) (Vo _), trivial⟩⟩
 ·try simp only [decide_eq_true_eq, decide_eq_false_iff_not, beq_iff_eq, bne_iff_ne, beq_eq_false_iff_ne, bne_eq_false_iff_eq, qbx, qby, qbu, qbE, qbv, ne_eq, Decidable.not_not, qbQ, qbR] at c1
  refine qD ?_
  refine zae ?_
  refine Up 3 (Vo _) rfl rfl (by simp only [zaf, zag]; exact rfl) ?_
  refine zac ?_
  refine zaa 2 rfl ?_
  refine zab ?_
  refine qa ?_
  refine qx (rs1 rfl (qL rfl)) rfl ?_
  rw [qbT (by omega)]
  rfl
end Go.Proofs.YtofklkbfkoliiaaGreat
namespace Go.Proofs.YtofklkbfkoliiaaGreat
set_option linter.unusedVariables false
set_option linter.unusedSimpArgs false
open Go.RowKit
attribute [local irreducible] tkN jC kG kU
theorem X9 (l : List (List Int)) : (l.flatMap fun b => [rwB b]).all D.isSlf = true := by
 induction l with
 | nil => rfl
 | cons b r ih => rw [qbJ, List.all_append, ih]; rfl
theorem qbh (l : List (List Int)) : (l.flatMap fun b => [rwB b]).all D.oc2 = true := by
 induction l with
 | nil => rfl
 | cons b r ih => rw [qbJ, List.all_append, ih]; rfl
theorem HR (p : PiM) (x : PcM) (hx : pcB x = false) : DFun Tryz.prog 31 [.agg (piD p), .agg (pcD x)] [] (.tup [.val (.agg #[.int .u64 0, .int .i64 0, .slice none 0 0]), .val (.int .i64 311)]) [] := by
 refine zap (N := 62) 0 (by kernel_rfl) Tryz.func31 rfl rfl rfl (by simp only [fr0, qbs, qbt]; exact rfl) rfl fun s0 hs0 => ?_
 refine zae ?_
 refine zao 3 ?_
 refine zac ?_
 refine zak rfl (qd 0 rfl (ev1 rfl) rfl) ?_
 refine zak rfl (qd 1 rfl (ev1 rfl) rfl) ?_
 refine zak rfl (zaq 2 rfl jR rfl) ?_
 refine zaa 1 rfl ?_
 refine zab ?_
 refine zae ?_
 refine zat ?_
 refine zah ?_
 refine za rfl (qb rfl kI (ev1 rfl) rfl rfl) ?_
 refine za rfl (zaj [] [] [] rfl (ev1 rfl) (ec (ev1 rfl) en) rfl rfl (yr x) rfl rfl rfl rfl rfl rfl) ?_
 refine za rfl (kv rfl (ev1 rfl)) ?_
 refine zaa 1 rfl ?_
 refine zab ?_
 refine qJ rfl (by rw [hx]; rfl) ?_
 refine zah ?_
 refine za rfl (k8 rfl J4 jR) ?_
 refine zas rfl (qY rfl qS (ev1 rfl) (ev1 rfl) rfl rfl rfl rfl) ?_
 refine zaa 1 rfl ?_
 refine zab ?_
 refine qa ?_
 refine qx (rs2 rfl (yv qS rfl rfl rfl) (qL rfl)) rfl ?_
 rfl
theorem HS (p : PiM) (x : PcM) (hx : pcB x = true) (h2 : x.sn < p.sn) : DFun Tryz.prog 31 [.agg (piD p), .agg (pcD x)] [] (.tup [.val (.agg #[.int .u64 0, .int .i64 0, .slice none 0 0]), .val (.int .i64 241)]) [] := by
 refine zap (N := 62) 0 (by kernel_rfl) Tryz.func31 rfl rfl rfl (by simp only [fr0, qbs, qbt]; exact rfl) rfl fun s0 hs0 => ?_
 refine zae ?_
 refine zao 3 ?_
 refine zac ?_
 refine zak rfl (qd 0 rfl (ev1 rfl) rfl) ?_
 refine zak rfl (qd 1 rfl (ev1 rfl) rfl) ?_
 refine zak rfl (zaq 2 rfl jR rfl) ?_
 refine zaa 1 rfl ?_
 refine zab ?_
 refine zae ?_
 refine zat ?_
 refine zah ?_
 refine za rfl (qb rfl kI (ev1 rfl) rfl rfl) ?_
 refine za rfl (zaj [] [] [] rfl (ev1 rfl) (ec (ev1 rfl) en) rfl rfl (yr x) rfl rfl rfl rfl rfl rfl) ?_
 refine za rfl (kv rfl (ev1 rfl)) ?_
 refine zaa 1 rfl ?_
 refine zab ?_
 refine qc rfl (by rw [hx]; rfl) ?_
 refine zah ?_
 refine za rfl (zam rfl kN (ev1 rfl)) ?_
 refine za rfl (zan rfl qZ (ev1 rfl) rfl rfl) ?_
 refine za rfl (zam rfl kQ (ev1 rfl)) ?_
 refine za rfl (zan rfl qZ (ev1 rfl) rfl rfl) ?_
 refine za rfl (qv rfl (ev1 rfl) (ev1 rfl)) ?_
 refine zaa 1 rfl ?_
 refine zab ?_
 refine qJ rfl (by simp; omega) ?_
 refine zah ?_
 refine za rfl (k8 rfl J4 jR) ?_
 refine zas rfl (qY rfl qS (ev1 rfl) (ev1 rfl) rfl rfl rfl rfl) ?_
 refine zaa 1 rfl ?_
 refine zab ?_
 refine qa ?_
 refine qx (rs2 rfl (yv qS rfl rfl rfl) (qL rfl)) rfl ?_
 rfl
theorem HT (p : PiM) (x : PcM) (hx : pcB x = true) (h2 : x.sn = p.sn) (h3 : x.mn ≠ p.mn) : DFun Tryz.prog 31 [.agg (piD p), .agg (pcD x)] [] (.tup [.val (.agg #[.int .u64 0, .int .i64 0, .slice none 0 0]), .val (.int .i64 311)]) [] := by
 refine zap (N := 62) 0 (by kernel_rfl) Tryz.func31 rfl rfl rfl (by simp only [fr0, qbs, qbt]; exact rfl) rfl fun s0 hs0 => ?_
 refine zae ?_
 refine zao 3 ?_
 refine zac ?_
 refine zak rfl (qd 0 rfl (ev1 rfl) rfl) ?_
 refine zak rfl (qd 1 rfl (ev1 rfl) rfl) ?_
 refine zak rfl (zaq 2 rfl jR rfl) ?_
 refine zaa 1 rfl ?_
 refine zab ?_
 refine zae ?_
 refine zat ?_
 refine zah ?_
 refine za rfl (qb rfl kI (ev1 rfl) rfl rfl) ?_
 refine za rfl (zaj [] [] [] rfl (ev1 rfl) (ec (ev1 rfl) en) rfl rfl (yr x) rfl rfl rfl rfl rfl rfl) ?_
 refine za rfl (kv rfl (ev1 rfl)) ?_
 refine zaa 1 rfl ?_
 refine zab ?_
 refine qc rfl (by rw [hx]; rfl) ?_
 refine zah ?_
 refine za rfl (zam rfl kN (ev1 rfl)) ?_
 refine za rfl (zan rfl qZ (ev1 rfl) rfl rfl) ?_
 refine za rfl (zam rfl kQ (ev1 rfl)) ?_
 refine za rfl (zan rfl qZ (ev1 rfl) rfl rfl) ?_
 refine za rfl (qv rfl (ev1 rfl) (ev1 rfl)) ?_
 refine zaa 1 rfl ?_
 refine zab ?_
 refine qc rfl (by simp; omega) ?_
 refine zah ?_
 refine za rfl (zam rfl kN (ev1 rfl)) ?_
 refine za rfl (zan rfl qZ (ev1 rfl) rfl rfl) ?_
 refine za rfl (zam rfl kQ (ev1 rfl)) ?_
 refine za rfl (zan rfl qZ (ev1 rfl) rfl rfl) ?_
 refine za rfl (kA rfl (ev1 rfl) (ev1 rfl)) ?_
 refine zaa 1 rfl ?_
 refine zab ?_
 refine qc rfl (by simp; omega) ?_
 refine zah ?_
 refine za rfl (zam rfl k9 (ev1 rfl)) ?_
 refine za rfl (zan rfl tb3 (ev1 rfl) rfl rfl) ?_
 refine za rfl (zam rfl jw (ev1 rfl)) ?_
 refine za rfl (zan rfl tb3 (ev1 rfl) rfl rfl) ?_
 refine za rfl (qT rfl (ev1 rfl) (ev1 rfl)) ?_
 refine zaa 1 rfl ?_
 refine zab ?_
 refine qJ rfl (by simpa using h3) ?_
 refine zah ?_
 refine za rfl (k8 rfl J4 jR) ?_
 refine zas rfl (qY rfl qS (ev1 rfl) (ev1 rfl) rfl rfl rfl rfl) ?_
 refine zaa 1 rfl ?_
 refine zab ?_
 refine qa ?_
 refine qx (rs2 rfl (yv qS rfl rfl rfl) (qL rfl)) rfl ?_
 rfl
theorem HU (p : PiM) (x : PcM) (hx : pcB x = true) (h2 : x.sn = p.sn) (h3 : x.mn = p.mn) (h4 : x.ix.toNat < p.ps.length) (h5 : emp p.ps[x.ix.toNat] = false) : DFun Tryz.prog 31 [.agg (piD p), .agg (pcD x)] [] (.tup [.val (.agg #[.int .u64 0, .int .i64 0, .slice none 0 0]), .val (.int .i64 5)]) [] := by
 refine zap (N := 62) 0 (by kernel_rfl) Tryz.func31 rfl rfl rfl (by simp only [fr0, qbs, qbt]; exact rfl) rfl fun s0 hs0 => ?_
 refine zae ?_
 refine zao 3 ?_
 refine zac ?_
 refine zak rfl (qd 0 rfl (ev1 rfl) rfl) ?_
 refine zak rfl (qd 1 rfl (ev1 rfl) rfl) ?_
 refine zak rfl (zaq 2 rfl jR rfl) ?_
 refine zaa 1 rfl ?_
 refine zab ?_
 refine zae ?_
 refine zat ?_
 refine zah ?_
 refine za rfl (qb rfl kI (ev1 rfl) rfl rfl) ?_
 refine za rfl (zaj [] [] [] rfl (ev1 rfl) (ec (ev1 rfl) en) rfl rfl (yr x) rfl rfl rfl rfl rfl rfl) ?_
 refine za rfl (kv rfl (ev1 rfl)) ?_
 refine zaa 1 rfl ?_
 refine zab ?_
 refine qc rfl (by rw [hx]; rfl) ?_
 refine zah ?_
 refine za rfl (zam rfl kN (ev1 rfl)) ?_
 refine za rfl (zan rfl qZ (ev1 rfl) rfl rfl) ?_
 refine za rfl (zam rfl kQ (ev1 rfl)) ?_
 refine za rfl (zan rfl qZ (ev1 rfl) rfl rfl) ?_
 refine za rfl (qv rfl (ev1 rfl) (ev1 rfl)) ?_
 refine zaa 1 rfl ?_
 refine zab ?_
 refine qc rfl (by simp; omega) ?_
 refine zah ?_
 refine za rfl (zam rfl kN (ev1 rfl)) ?_
 refine za rfl (zan rfl qZ (ev1 rfl) rfl rfl) ?_
 refine za rfl (zam rfl kQ (ev1 rfl)) ?_
 refine za rfl (zan rfl qZ (ev1 rfl) rfl rfl) ?_
 refine za rfl (kA rfl (ev1 rfl) (ev1 rfl)) ?_
 refine zaa 1 rfl ?_
 refine zab ?_
 refine qc rfl (by simp; omega) ?_
 refine zah ?_
 refine za rfl (zam rfl k9 (ev1 rfl)) ?_
 refine za rfl (zan rfl tb3 (ev1 rfl) rfl rfl) ?_
 refine za rfl (zam rfl jw (ev1 rfl)) ?_
 refine za rfl (zan rfl tb3 (ev1 rfl) rfl rfl) ?_
 refine za rfl (qT rfl (ev1 rfl) (ev1 rfl)) ?_
 refine zaa 1 rfl ?_
 refine zab ?_
 refine qc rfl (by simpa using h3) ?_
 refine zae ?_
 have hpx := pcB_iff.1 hx
 refine zac ?_
 refine za rfl (zam rfl kt (ev1 rfl)) ?_
 refine za rfl (zan rfl jp (ev1 rfl) rfl rfl) ?_
 refine za rfl (zam rfl jv (ev1 rfl)) ?_
 refine za rfl (zan rfl tb3 (ev1 rfl) rfl rfl) ?_
 refine za rfl (gd (x.ix.toNat) rfl kO (ev1 rfl) (ev1 rfl) (by omega) (jO (by omega))) ?_
 refine za rfl (jk rfl kD (ev1 rfl) rfl) ?_
 refine za rfl (qE rfl qG (ev1 rfl)) ?_
 refine za rfl (kA rfl (ev1 rfl) (ev1 rfl)) ?_
 refine zaa 1 rfl ?_
 refine zab ?_
 refine qJ rfl (by rw [Kg, h5]; rfl) ?_
 refine zah ?_
 refine za rfl (k8 rfl J4 jR) ?_
 refine zas rfl (qY rfl qS (ev1 rfl) (ev1 rfl) rfl rfl rfl rfl) ?_
 refine zaa 1 rfl ?_
 refine zab ?_
 refine qa ?_
 refine qx (rs2 rfl (yv qS rfl rfl rfl) (qL rfl)) rfl ?_
 rfl
theorem HV (p : PiM) (x : PcM) (hn : p.ps.length ≤ 5000) (hx : pcB x = true) (h2 : x.sn = p.sn) (h3 : x.mn = p.mn) (h4 : x.ix.toNat < p.ps.length) (h5 : emp p.ps[x.ix.toNat] = true) : DFun Tryz.prog 31 [.agg (piD p), .agg (pcD x)] [] (.tup [.agg [.val (.int .u64 p.sn), .val (.int .i64 p.mn), .arr 0], .val (.int .i64 0)]) [.arx 30 1 p.ps.length ((p.ps.set x.ix.toNat x.b).flatMap fun b => [rwB b])] := by
 refine zap (N := 62) 0 (by kernel_rfl) Tryz.func31 rfl rfl rfl (by simp only [fr0, qbs, qbt]; exact rfl) rfl fun s0 hs0 => ?_
 refine zae ?_
 refine zao 3 ?_
 refine zac ?_
 refine zak rfl (qd 0 rfl (ev1 rfl) rfl) ?_
 refine zak rfl (qd 1 rfl (ev1 rfl) rfl) ?_
 refine zak rfl (zaq 2 rfl jR rfl) ?_
 refine zaa 1 rfl ?_
 refine zab ?_
 refine zae ?_
 refine zat ?_
 refine zah ?_
 refine za rfl (qb rfl kI (ev1 rfl) rfl rfl) ?_
 refine za rfl (zaj [] [] [] rfl (ev1 rfl) (ec (ev1 rfl) en) rfl rfl (yr x) rfl rfl rfl rfl rfl rfl) ?_
 refine za rfl (kv rfl (ev1 rfl)) ?_
 refine zaa 1 rfl ?_
 refine zab ?_
 refine qc rfl (by rw [hx]; rfl) ?_
 refine zah ?_
 refine za rfl (zam rfl kN (ev1 rfl)) ?_
 refine za rfl (zan rfl qZ (ev1 rfl) rfl rfl) ?_
 refine za rfl (zam rfl kQ (ev1 rfl)) ?_
 refine za rfl (zan rfl qZ (ev1 rfl) rfl rfl) ?_
 refine za rfl (qv rfl (ev1 rfl) (ev1 rfl)) ?_
 refine zaa 1 rfl ?_
 refine zab ?_
 refine qc rfl (by simp; omega) ?_
 refine zah ?_
 refine za rfl (zam rfl kN (ev1 rfl)) ?_
 refine za rfl (zan rfl qZ (ev1 rfl) rfl rfl) ?_
 refine za rfl (zam rfl kQ (ev1 rfl)) ?_
 refine za rfl (zan rfl qZ (ev1 rfl) rfl rfl) ?_
 refine za rfl (kA rfl (ev1 rfl) (ev1 rfl)) ?_
 refine zaa 1 rfl ?_
 refine zab ?_
 refine qc rfl (by simp; omega) ?_
 refine zah ?_
 refine za rfl (zam rfl k9 (ev1 rfl)) ?_
 refine za rfl (zan rfl tb3 (ev1 rfl) rfl rfl) ?_
 refine za rfl (zam rfl jw (ev1 rfl)) ?_
 refine za rfl (zan rfl tb3 (ev1 rfl) rfl rfl) ?_
 refine za rfl (qT rfl (ev1 rfl) (ev1 rfl)) ?_
 refine zaa 1 rfl ?_
 refine zab ?_
 refine qc rfl (by simpa using h3) ?_
 refine zae ?_
 have hpx := pcB_iff.1 hx
 refine zac ?_
 refine za rfl (zam rfl kt (ev1 rfl)) ?_
 refine za rfl (zan rfl jp (ev1 rfl) rfl rfl) ?_
 refine za rfl (zam rfl jv (ev1 rfl)) ?_
 refine za rfl (zan rfl tb3 (ev1 rfl) rfl rfl) ?_
 refine za rfl (gd (x.ix.toNat) rfl kO (ev1 rfl) (ev1 rfl) (by omega) (jO (by omega))) ?_
 refine za rfl (jk rfl kD (ev1 rfl) rfl) ?_
 refine za rfl (qE rfl qG (ev1 rfl)) ?_
 refine za rfl (kA rfl (ev1 rfl) (ev1 rfl)) ?_
 refine zaa 1 rfl ?_
 refine zab ?_
 refine qc rfl (by rw [Kg, h5]; rfl) ?_
 refine zar ?_
 refine zae ?_
 refine zao 2 ?_
 refine zac ?_
 refine zak rfl (Un (ps := []) 3 (fun s d v hd hr => by simp at hd) rfl kO uU rfl en (by decide) rfl) ?_
 refine za rfl (zam rfl kt (ev1 rfl)) ?_
 refine za rfl (zan rfl jp (ev1 rfl) rfl rfl) ?_
 refine zak rfl (QM (j := 4) rfl kO uU rfl (ev1 rfl) (ev1 rfl) rfl rfl (X9 _) (fun _ => ⟨by omega, by omega⟩)) ?_
 refine za rfl (zam rfl kt (ev1 rfl)) ?_
 refine zas rfl (kJ rfl jp (ev1 rfl) (ev1 rfl) (fun s v h => by cases h <;> exact ⟨rfl, rfl⟩) rfl (by first | decide | exact qbA rfl | simp)) ?_
 refine zab ?_
 refine zah ?_
 refine za rfl (zam rfl kt (ev1 rfl)) ?_
 refine za rfl (zan rfl jp (ev1 rfl) rfl rfl) ?_
 refine za rfl (zam rfl jv (ev1 rfl)) ?_
 refine za rfl (zan rfl tb3 (ev1 rfl) rfl rfl) ?_
 refine za rfl (zam rfl yd (ev1 rfl)) ?_
 refine za rfl (zan rfl kD (ev1 rfl) rfl rfl) ?_
 refine za rfl (ge (x.ix.toNat) rfl kO (ev1 rfl) (ev1 rfl) rfl (fun _ => by omega) (fun _ => by omega)) ?_
 refine zas rfl (yD (j := x.ix.toNat) (g := rwB) (q := x.b) rfl kD (ev1 rfl) (ev1 rfl) rfl (by omega) (fun s v h => by cases h <;> exact ⟨rfl, rfl⟩)) ?_
 refine zab ?_
 refine zah ?_
 refine za rfl (qb rfl qS (ev1 rfl) rfl rfl) ?_
 refine zas rfl (kw rfl qS (ev1 rfl) (ev1 rfl) rfl rfl rfl rfl) ?_
 refine zaa 1 rfl ?_
 refine zab ?_
 refine qa ?_
 refine ko [4] (rs2 rfl (y0 qS rfl rfl rfl) (qL rfl)) rfl rfl ?_ ⟨?_, trivial⟩
 rfl
 exact qp (by simp) rfl (fun _ => rfl)
theorem HW (p : PiM) (x : PcM) (hx : pcB x = true) (h2 : p.sn < x.sn) : DFun Tryz.prog 31 [.agg (piD p), .agg (pcD x)] [] (.tup [.agg [.val (.int .u64 x.sn), .val (.int .i64 x.mn), .arr 0], .val (.int .i64 0)]) [.arx 30 1 x.mn.toNat (((qbH x.mn.toNat ([] : List Int)).set x.ix.toNat x.b).flatMap fun b => [rwB b])] := by
 refine zap (N := 62) 0 (by kernel_rfl) Tryz.func31 rfl rfl rfl (by simp only [fr0, qbs, qbt]; exact rfl) rfl fun s0 hs0 => ?_
 refine zae ?_
 refine zao 3 ?_
 refine zac ?_
 refine zak rfl (qd 0 rfl (ev1 rfl) rfl) ?_
 refine zak rfl (qd 1 rfl (ev1 rfl) rfl) ?_
 refine zak rfl (zaq 2 rfl jR rfl) ?_
 refine zaa 1 rfl ?_
 refine zab ?_
 refine zae ?_
 refine zat ?_
 refine zah ?_
 refine za rfl (qb rfl kI (ev1 rfl) rfl rfl) ?_
 refine za rfl (zaj [] [] [] rfl (ev1 rfl) (ec (ev1 rfl) en) rfl rfl (yr x) rfl rfl rfl rfl rfl rfl) ?_
 refine za rfl (kv rfl (ev1 rfl)) ?_
 refine zaa 1 rfl ?_
 refine zab ?_
 refine qc rfl (by rw [hx]; rfl) ?_
 refine zah ?_
 refine za rfl (zam rfl kN (ev1 rfl)) ?_
 refine za rfl (zan rfl qZ (ev1 rfl) rfl rfl) ?_
 refine za rfl (zam rfl kQ (ev1 rfl)) ?_
 refine za rfl (zan rfl qZ (ev1 rfl) rfl rfl) ?_
 refine za rfl (qv rfl (ev1 rfl) (ev1 rfl)) ?_
 refine zaa 1 rfl ?_
 refine zab ?_
 refine qc rfl (by simp; omega) ?_
 refine zah ?_
 refine za rfl (zam rfl kN (ev1 rfl)) ?_
 refine za rfl (zan rfl qZ (ev1 rfl) rfl rfl) ?_
 refine za rfl (zam rfl kQ (ev1 rfl)) ?_
 refine za rfl (zan rfl qZ (ev1 rfl) rfl rfl) ?_
 refine za rfl (kA rfl (ev1 rfl) (ev1 rfl)) ?_
 refine zaa 1 rfl ?_
 refine zab ?_
 refine qJ rfl (by simp; omega) ?_
 have hpx := pcB_iff.1 hx
 refine zao 1 ?_
 refine qg [([], []), ([1], []), ([], []), ([1], []), ([], []), ([1], []), ([3], [3]), ([], []), ([0], [0])] qP (by kernel_rfl) ?_
 refine zad rfl rfl (zam rfl kN (ev1 rfl)) ?_
 refine zad rfl rfl (zan rfl qZ (ev1 rfl) rfl rfl) ?_
 refine zad rfl rfl (zam rfl k9 (ev1 rfl)) ?_
 refine zad rfl rfl (zan rfl tb3 (ev1 rfl) rfl rfl) ?_
 refine zad rfl rfl (zam rfl k9 (ev1 rfl)) ?_
 refine zad rfl rfl (zan rfl tb3 (ev1 rfl) rfl rfl) ?_
 refine gE rfl rfl (xj 3 (x.mn.toNat) (.slice none 0 0) rfl kO uU (rfl) (by decide) (ev1 rfl) (ev1 rfl) (fun _ => by omega) (fun _ => by omega) rfl (fun _ => by omega)) rfl (by simp only [upd, zaf, zag]; exact rfl) ?_
 refine zad rfl rfl (jZ (ps := [(0, .tmp 25), (1, .tmp 27), (2, .tmp 30)]) rfl J4 jR (ec (ev1 rfl) (ec (ev1 rfl) (ec (ev1 rfl) en))) rfl rfl rfl) ?_
 refine j0 rfl rfl (wK rfl qS (ev1 rfl) (ev1 rfl) rfl rfl rfl rfl) rfl (by simp only [upd, zaf, zag]; exact rfl) ?_
 refine qk ?_
 refine zae ?_
 refine jg 3 u7 rfl rfl (by simp only [qbD, qbF, zaf, zag, List.map]; exact rfl) ?_
 refine zao 2 ?_
 refine zac ?_
 refine zak rfl (Un (ps := []) 4 (fun s d v hd hr => by simp at hd) rfl kO uU rfl en (by decide) rfl) ?_
 refine za rfl (zam rfl kt (ev1 rfl)) ?_
 refine za rfl (zan rfl jp (ev1 rfl) rfl rfl) ?_
 refine zak rfl (Uw (j := 5) rfl kO uU rfl (ev1 rfl) (ev1 rfl) rfl rfl rfl (qbh _) (fun _ => ⟨by rw [qbN]; omega, by rw [qbN]; omega⟩)) ?_
 refine za rfl (zam rfl kt (ev1 rfl)) ?_
 refine zas rfl (kJ rfl jp (ev1 rfl) (ev1 rfl) (fun s v h => by cases h <;> exact ⟨rfl, rfl⟩) rfl (by first | decide | exact qbA rfl | simp)) ?_
 refine zab ?_
 refine zah ?_
 refine za rfl (zam rfl kt (ev1 rfl)) ?_
 refine za rfl (zan rfl jp (ev1 rfl) rfl rfl) ?_
 refine za rfl (zam rfl jv (ev1 rfl)) ?_
 refine za rfl (zan rfl tb3 (ev1 rfl) rfl rfl) ?_
 refine za rfl (zam rfl yd (ev1 rfl)) ?_
 refine za rfl (zan rfl kD (ev1 rfl) rfl rfl) ?_
 refine za rfl (ge (x.ix.toNat) rfl kO (ev1 rfl) (ev1 rfl) rfl (fun _ => by omega) (fun _ => by rw [qbN]; omega)) ?_
 refine zas rfl (yD (j := x.ix.toNat) (g := rwB) (q := x.b) rfl kD (ev1 rfl) (ev1 rfl) rfl (by rw [qbN]; omega) (fun s v h => by cases h <;> exact ⟨rfl, rfl⟩)) ?_
 refine zab ?_
 refine zah ?_
 refine za rfl (qb rfl qS (ev1 rfl) rfl rfl) ?_
 refine zas rfl (kw rfl qS (ev1 rfl) (ev1 rfl) rfl rfl rfl rfl) ?_
 refine zaa 1 rfl ?_
 refine zab ?_
 refine qa ?_
 refine ko [5] (rs2 rfl (y0 qS rfl rfl rfl) (qL rfl)) rfl rfl ?_ ⟨?_, trivial⟩
 rfl
 exact qp (by simp) rfl (fun _ => rfl)
theorem HX (p : PiM) (hn : p.ps.length ≤ 5000) (hb : ∀ b ∈ p.ps, b.length ≤ 100000) (hp : kH p = true) (x : PcM) (e : Int) (he : e ≠ 0) (h : (kU p x).1 = e) : DFun Tryz.prog 31 [.agg (piD p), .agg (pcD x)] [] (.tup [.agg (piD zPi), .val (.int .i64 e)]) [] := by
 refine DFun.wk ?_ (AJ e)
 rcases j7 hp x with ⟨_, _, h1⟩ | ⟨_, _, _, _, h1⟩ | ⟨e1, _, h1, g⟩
 ·rw [h1] at h; exact absurd h.symm he
 ·rw [h1] at h; exact absurd h.symm he
 ·obtain rfl : e1 = e := by rw [h1] at h; exact h
  rcases g with ⟨a, rfl⟩ | ⟨a, b, rfl⟩ | ⟨a, b, c, rfl⟩ | ⟨a, b, c, ⟨d, f⟩, rfl⟩
  ·exact HR p x a
  ·exact HS p x a b
  ·exact HT p x a b c
  ·exact HU p x a b c d f
theorem HY (p : PiM) (hn : p.ps.length ≤ 5000) (hb : ∀ b ∈ p.ps, b.length ≤ 100000) (hp : kH p = true) (x : PcM) (h : (kU p x).1 = 0) : DFun Tryz.prog 31 [.agg (piD p), .agg (pcD x)] [] (.tup [.agg (piD (kU p x).2), .val (.int .i64 0)]) [] := by
 rcases j7 hp x with ⟨a, b, h1⟩ | ⟨a, b, c, ⟨d, f⟩, h1⟩ | ⟨e1, he, h1, _⟩
 ·have hq := yc (HW p x a b) (JL wO)
  rw [h1]
  have hl : (qbH x.mn.toNat ([] : List Int)).length = x.mn.toNat := qbN
  unfold piD
  dsimp only
  rw [List.length_set, hl]
  exact hq
 ·have hq := yc (HV p x hn a b c d f) (JL wO)
  rw [h1]
  unfold piD
  dsimp only
  rw [List.length_set]
  exact hq
 ·rw [h1] at h; exact absurd h he
end Go.Proofs.YtofklkbfkoliiaaGreat
namespace Go.Proofs.YtofklkbfkoliiaaGreat
set_option linter.unusedVariables false
set_option linter.unusedSimpArgs false
open Go.RowKit
attribute [local irreducible] tkN jC kG kU
def cN (f : Nat) : Option Nat → D
 | none => rwB []
 | some m => .farr f m
theorem qM {σ : List Nat} {V : Nat → Bool} {M : List Blk} {T : TypeId} {i j n n' : Nat} {l l' : List (Option Nat)} (hn : n = n') (hl : l = l') (hp : pos σ i = some j) : (vwL σ V M (l.flatMap fun o => [cN i o])).map (Blk.arx T 1 n) = some (Blk.arx T 1 n' (l'.flatMap fun o => [cN j o])) :=
 qp hn hl fun o => by
  cases o with
  | none => rfl
  | some m => unfold cN vw; rw [hp]
theorem sbN {τ : List Nat} {T : TypeId} {n i j : Nat} {l : List (Option Nat)} (h : τ[j]? = some i) : sbB τ (.arx T 1 n (l.flatMap fun o => [cN j o])) = some (.arx T 1 n (l.flatMap fun o => [cN i o])) :=
 q9 fun o => by
  cases o with
  | none => rfl
  | some m => unfold cN sb; rw [h]; rfl
def YC (R : List (List Int)) : Option Nat → List Int
 | none => []
 | some m => R.getD m []
def psN (ns : List (Option Nat)) (R : List (List Int)) : List (List Int) := ns.map (YC R)
theorem xa (ns : List (Option Nat)) (R : List (List Int)) : (psN ns R).length = ns.length := by unfold psN; simp
def okN (ns : List (Option Nat)) (R : List (List Int)) : Prop := ∀ m, some m ∈ ns → ∃ h : m < R.length, emp R[m] = false
theorem YD {ns : List (Option Nat)} {R : List (List Int)} (h : okN ns R) (b : List Int) : psN ns (R ++ [b]) = psN ns R := by
 unfold psN
 refine List.map_congr_left fun o ho => ?_
 cases o with
 | none => rfl
 | some m =>
  obtain ⟨hm, _⟩ := h m ho
  show (R ++ [b]).getD m [] = R.getD m []
  rw [qbV, qbV, qbI hm]
theorem YE {ns : List (Option Nat)} {R : List (List Int)} (h : okN ns R) (b : List Int) : okN ns (R ++ [b]) := fun m hm => by
 obtain ⟨h1, h2⟩ := h m hm
 exact ⟨by rw [qbz]; omega, by rw [List.getElem_append_left h1]; exact h2⟩
theorem Ji (R : List (List Int)) (b : List Int) : YC (R ++ [b]) (some R.length) = b := by
 show (R ++ [b]).getD R.length [] = b
 rw [qbV, qbO (qbM _), Nat.sub_self]
 rfl
theorem Vy {ns : List (Option Nat)} {R : List (List Int)} (h : okN ns R) {b : List Int} (hb : emp b = false) (k : Nat) : okN (ns.set k (some R.length)) (R ++ [b]) := fun m hm => by
 rcases List.mem_or_eq_of_mem_set hm with g | g
 ·exact YE h b m g
 ·have g : m = R.length := qbw g
  subst g
  exact ⟨by rw [qbz]; exact Nat.lt_succ_self _, by rw [List.getElem_append_right (qbM _)]; simpa using hb⟩
theorem Vz {ns : List (Option Nat)} {R : List (List Int)} (h : okN ns R) (b : List Int) (k : Nat) : psN (ns.set k (some R.length)) (R ++ [b]) = (psN ns R).set k b := by
 have e := YD h b
 unfold psN at e ⊢
 rw [List.map_set, Ji, e]
def nsF : List (List Int) → List (Option Nat) × List (List Int) → List (Option Nat) × List (List Int)
 | [], s => s
 | b :: r, s => nsF r (if emp b = true then (s.1 ++ [none], s.2) else (s.1 ++ [some s.2.length], s.2 ++ [b]))
theorem wA (ps : List (List Int)) {k : Nat} (s : List (Option Nat) × List (List Int)) (h : k < ps.length) : nsF (ps.take (k + 1)) s = if emp ps[k] = true then ((nsF (ps.take k) s).1 ++ [none], (nsF (ps.take k) s).2) else ((nsF (ps.take k) s).1 ++ [some (nsF (ps.take k) s).2.length], (nsF (ps.take k) s).2 ++ [ps[k]]) := by
 induction ps generalizing k s with
 | nil => simp at h
 | cons x r ih =>
  cases k with
  | zero => simp [nsF]
  | succ k =>
   rw [List.take_succ_cons, List.take_succ_cons, nsF, nsF, ih _ (by simpa using h)]
   rfl
theorem J9 {ps : List (List Int)} : ∀ k, k ≤ ps.length → (nsF (ps.take k) ([], [])).1.length = k ∧ okN (nsF (ps.take k) ([], [])).1 (nsF (ps.take k) ([], [])).2 ∧ psN (nsF (ps.take k) ([], [])).1 (nsF (ps.take k) ([], [])).2 = ps.take k
 | 0, _ => ⟨rfl, (fun m hm => by cases hm), rfl⟩
 | k + 1, hk => by
  obtain ⟨h1, h2, h3⟩ := J9 (ps := ps) k (by omega)
  rw [wA _ _ (by omega)]
  cases he : emp ps[k] with
  | true =>
   rw [if_pos rfl]
   dsimp only
   refine ⟨by rw [qbz, h1]; rfl, fun m hm => ?_, ?_⟩
   ·rcases List.mem_append.1 hm with g | g
    ·exact h2 m g
    ·cases List.mem_singleton.1 g
   ·unfold psN at h3 ⊢
    rw [List.map_append, h3, qbP (by omega), emp_iff.1 he]
    rfl
  | false =>
   rw [if_neg (by decide)]
   dsimp only
   refine ⟨by rw [qbz, h1]; rfl, fun m hm => ?_, ?_⟩
   ·rcases List.mem_append.1 hm with g | g
    ·exact YE h2 _ m g
    ·have g : m = _ := qbw (List.mem_singleton.1 g)
     subst g
     exact ⟨by rw [qbz]; exact Nat.lt_succ_self _, by rw [List.getElem_append_right (qbM _)]; simpa using he⟩
   ·have e := YD h2 ps[k]
    unfold psN at e h3 ⊢
    rw [List.map_append, e, h3, qbP (by omega)]
    congr 1
    exact congrArg (fun x => [x]) (Ji _ _)
theorem YF {ns : List (Option Nat)} {f k : Nat} {o : Option Nat} (h : ns[k]? = some o) : (ns.flatMap fun o => [cN f o])[k * 1]? = some (cN f o) := by
 rw [Nat.mul_one, KU, qca, h]
 rfl
theorem YG {ns : List (Option Nat)} {n k : Nat} (o : Option Nat) (hl : ns.length = k) (h : k < n) : (ns ++ qbH (n - k) none).set k o = (ns ++ [o]) ++ qbH (n - (k + 1)) none := by
 rw [List.set_append_right _ _ (by omega), hl, Nat.sub_self, show n - k = (n - (k + 1)) + 1 by omega, List.replicate_succ, zaf, qbY]
 rfl
theorem Jj {e : TypeId} {n f : Nat} : ∀ s h, BlkOk s h (.arr e 1 n (qbH (n * 1) (Value.slice none 0 0))) → BlkOk s h (.arx e 1 n ((qbH n (none : Option Nat)).flatMap fun o => [cN f o])) := fun s h hk => by
 have := u7 s h hk
 rw [qbN] at this
 have e1 : ((qbH n ([] : List Int)).flatMap fun b => [rwB b]) = (qbH n (none : Option Nat)).flatMap fun o => [cN f o] := by
  clear this hk
  induction n with
  | zero => rfl
  | succ n ih => rw [List.replicate_succ, qbJ, List.replicate_succ, qbJ, ih]; rfl
 rw [e1] at this
 exact this
theorem qbi (p : PiM) (hn : p.ps.length ≤ 5000) (hb : ∀ b ∈ p.ps, b.length ≤ 100000) (hp : kH p = true) : DFun Tryz.prog 71 [.agg (piD p)] [.fam (jq ([]))] (.loc 1 0) [.fam (jq ((nsF (p.ps.take p.ps.length) ([], [])).2)), .mix 118 [.val (.int .u64 p.sn), .val (.int .i64 p.mn), .arr 2], .arx 30 1 ((nsF (p.ps.take p.ps.length) ([], [])).1).length (((nsF (p.ps.take p.ps.length) ([], [])).1).flatMap fun o => [cN 0 o])] := by
 refine zap (N := 33) 1 (by kernel_rfl) Tryz.func71 rfl rfl rfl (by simp only [fr0, qbs, qbt]; exact rfl) rfl fun s0 hs0 => ?_
 refine zae ?_
 refine zao 1 ?_
 refine zac ?_
 refine zak rfl (qd 1 rfl (ev1 rfl) rfl) ?_
 refine zaa 1 rfl ?_
 refine zab ?_
 refine zah ?_
 refine za rfl (qb rfl qS (ev1 rfl) rfl rfl) ?_
 refine za rfl (zaj [] [] [] rfl (ev1 rfl) (ec (ev1 rfl) en) rfl rfl (ww p hn) rfl rfl rfl rfl rfl rfl) ?_
 refine za rfl (qm rfl (ev1 rfl) (ev1 rfl)) ?_
 refine za rfl (zaj [] [] [] rfl (ev1 rfl) (ec (ev1 rfl) (ec (ev1 rfl) en)) rfl rfl (qR _ _ (by rw [hp]; rfl)) rfl rfl rfl rfl rfl rfl) ?_
 refine zab ?_
 refine zae ?_
 refine zao 1 ?_
 refine zac ?_
 refine za rfl (zam rfl kt (ev1 rfl)) ?_
 refine za rfl (zan rfl jp (ev1 rfl) rfl rfl) ?_
 refine za rfl (kE rfl kO (ev1 rfl)) ?_
 refine zak rfl (xj 2 (p.ps.length) (.slice none 0 0) rfl kO uU (rfl) (by decide) (ev1 rfl) (ev1 rfl) (fun _ => by omega) (fun _ => by omega) rfl (fun _ => by omega)) ?_
 refine zaa 1 rfl ?_
 refine zab ?_
 refine zae ?_
 refine zae ?_
 refine jg 2 (Jj (f := 0)) rfl rfl (by simp only [qbD, qbF, zaf, zag, List.map]; exact rfl) ?_
 refine zac ?_
 refine za rfl (zam rfl kt (ev1 rfl)) ?_
 refine za rfl (zan rfl jp (ev1 rfl) rfl rfl) ?_
 refine za rfl (kE rfl kO (ev1 rfl)) ?_
 refine zaa 1 rfl ?_
 refine zab ?_
 refine zat ?_
 refine qI ⟨hs0, rfl⟩ (α := Nat) (fun k => [(17, .val (.int .i64 (k : Int)))]) [(1, _), (3, _), (15, _), (16, _)] (fun k => [(0, .fam (jq ((nsF (p.ps.take k) ([], [])).2))), (2, .arx 30 1 (p.ps.length) (((nsF (p.ps.take k) ([], [])).1 ++ qbH (p.ps.length - k) none).flatMap fun o => [cN 0 o]))]) [.hole, _, .hole] (fun k => k ≤ p.ps.length) (fun k => p.ps.length - k) 0 [0, 1, 2] (by simp) rfl ⟨rfl, rfl, rfl, rfl, trivial⟩ ⟨rfl, trivial⟩ ⟨by rfl, rfl, by exact qM rfl rfl rfl, trivial⟩ ?_
 intro k hx
 simp only [upd, zaf, zag, qbD, qbF]
 have hk := hx
 obtain ⟨hq1, hq2, hq3⟩ := J9 (ps := p.ps) k hk
 refine zah ?_
 refine za rfl (qv rfl (ev1 rfl) (ev1 rfl)) ?_
 refine zab ?_
 refine zae ?_
 refine qh rfl (fun c1 => ?_) (fun c1 => ?_)
 ·try simp only [decide_eq_true_eq, decide_eq_false_iff_not, beq_iff_eq, bne_iff_ne, beq_eq_false_iff_ne, bne_eq_false_iff_eq, qbx, qby, qbu, qbE, qbv, ne_eq, Decidable.not_not, qbQ, qbR] at c1
  refine zar ?_
  refine zae ?_
  refine zat ?_
  refine zah ?_
  refine zaa 1 rfl ?_
  refine za rfl (gd (k) rfl kO (ev1 rfl) (ev1 rfl) (fun _ => rfl) (jO (by omega))) ?_
  refine za rfl (jk rfl kD (ev1 rfl) rfl) ?_
  refine zaa 2 rfl ?_
  refine zab ?_
  by_cases he : emp p.ps[k] = true
  ·refine zac ?_
   refine zaa 3 rfl ?_
   refine za rfl ((zaj [] [] [] rfl (ev1 rfl) (ec (ev1 rfl) en) rfl rfl (gS p.ps[k] (by have := hb _ (qb9 (show k < p.ps.length by omega)); omega)) rfl rfl rfl rfl rfl rfl).cast (d' := .slf 1 (([] : List Int)).length ((([] : List Int)).flatMap uc8)) (by rw [emp_iff.1 he])) ?_
   refine za rfl (ge (k) rfl kO (ev1 rfl) (ev1 rfl) rfl (fun _ => rfl) (fun _ => by omega)) ?_
   refine zas rfl (yD (j := k) (g := (cN 0)) (q := none) rfl kD (ev1 rfl) (ev1 rfl) rfl (by rw [qbz, qbN]; omega) (fun s v h => by cases h <;> exact ⟨rfl, rfl⟩)) ?_
   refine zab ?_
   refine zac ?_
   refine za rfl (ql rfl (ev1 rfl) (ev1 rfl) (fun _ => qbB _ (by omega))) ?_
   refine zaa 1 rfl ?_
   refine zab ?_
   refine ⟨k + 1, [0, 1, 2], by omega, by simp only []; omega, rfl, ⟨rfl, rfl, rfl, rfl, rfl, trivial⟩, ⟨by rw [wA _ _ (by omega), if_pos he]; rfl, rfl, by rw [wA _ _ (by omega), if_pos he, ← YG none hq1 (by omega)]; exact qM rfl rfl rfl, trivial⟩⟩
  ·refine zac ?_
   refine zaa 3 rfl ?_
   refine zak rfl (zaj [0] [] [] rfl (ev1 rfl) (ec (ev1 rfl) en) rfl rfl (Kd p.ps[k] (by have := hb _ (qb9 (show k < p.ps.length by omega)); omega) ((nsF (p.ps.take k) ([], [])).2) _ rfl) rfl rfl rfl rfl rfl rfl) ?_
   refine za rfl (ge (k) rfl kO (ev1 rfl) (ev1 rfl) rfl (fun _ => rfl) (fun _ => by omega)) ?_
   refine zas rfl (yD (j := k) (g := (cN 0)) (q := (some (nsF (p.ps.take k) ([], [])).2.length)) rfl kD (ev1 rfl) (ev1 rfl) rfl (by rw [qbz, qbN]; omega) (fun s v h => by cases h <;> exact ⟨rfl, rfl⟩)) ?_
   refine zab ?_
   refine zac ?_
   refine za rfl (ql rfl (ev1 rfl) (ev1 rfl) (fun _ => qbB _ (by omega))) ?_
   refine zaa 1 rfl ?_
   refine zab ?_
   refine ⟨k + 1, [0, 1, 2], by omega, by simp only []; omega, rfl, ⟨rfl, rfl, rfl, rfl, rfl, trivial⟩, ⟨by rw [wA _ _ (by omega), if_neg he]; rfl, rfl, by rw [wA _ _ (by omega), if_neg he, ← YG _ hq1 (by omega)]; exact qM rfl rfl rfl, trivial⟩⟩
 ·try simp only [decide_eq_true_eq, decide_eq_false_iff_not, beq_iff_eq, bne_iff_ne, beq_eq_false_iff_ne, bne_eq_false_iff_eq, qbx, qby, qbu, qbE, qbv, ne_eq, Decidable.not_not, qbQ, qbR] at c1
  refine qD ?_
  refine zae ?_
  obtain rfl : k = p.ps.length := by omega
  rw [Nat.sub_self, List.replicate_zero, qci]
  refine zac ?_
  refine zaa 1 rfl ?_
  refine za rfl (zam rfl kt (ev1 rfl)) ?_
  refine zas rfl (kJ rfl jp (ev1 rfl) (ev1 rfl) (fun s v h => by cases h <;> exact ⟨rfl, rfl⟩) rfl (by first | decide | exact qbA rfl | simp)) ?_
  refine zab ?_
  refine zae ?_
  refine zao 1 ?_
  refine zac ?_
  refine za rfl (qb rfl qS (ev1 rfl) rfl rfl) ?_
  refine za rfl (JF rfl (ev1 rfl) AE AF rfl) ?_
  refine zak rfl (qd 3 rfl (ev1 rfl) rfl) ?_
  refine zaa 1 rfl ?_
  refine zab ?_
  refine qa ?_
  refine ko [0, 3, 2] (rs1 rfl (qL rfl)) rfl rfl ?_ ⟨?_, ?_, ?_, trivial⟩
  rfl
  rfl
  rfl
  exact qM hq1.symm rfl rfl
theorem HZ (sn mn : Int) (ns : List (Option Nat)) (R : List (List Int)) (x : PcM) (hx : pcB x = false) : DPan Tryz.prog 72 [.loc 0 0, .agg (pcD x)] [.mix 118 [.val (.int .u64 sn), .val (.int .i64 mn), .arr 1], .arx 30 1 (ns).length ((ns).flatMap fun o => [cN 2 o]), .fam (jq (R))] (.ifc 125 (.val (.agg #[.int .i64 311]))) [.mix 118 [.val (.int .u64 sn), .val (.int .i64 mn), .arr 1], .arx 30 1 (ns).length ((ns).flatMap fun o => [cN 2 o]), .fam (jq (R))] := by
 refine zap (N := 68) 3 (by kernel_rfl) Tryz.func72 rfl rfl rfl (by simp only [fr0, qbs, qbt]; exact rfl) rfl fun s0 hs0 => ?_
 refine zae ?_
 refine zao 1 ?_
 refine zac ?_
 refine zak rfl (qd 3 rfl (ev1 rfl) rfl) ?_
 refine zab ?_
 refine zah ?_
 refine za rfl (qb rfl kI (ev1 rfl) rfl rfl) ?_
 refine za rfl (zaj [] [] [] rfl (ev1 rfl) (ec (ev1 rfl) en) rfl rfl (gB x) rfl rfl rfl rfl rfl rfl) ?_
 refine za rfl (qm rfl (ev1 rfl) (ev1 rfl)) ?_
 refine ky rfl (qw [] [] [] rfl (ev1 rfl) (ec (ev1 rfl) (ec (ev1 rfl) en)) rfl rfl (jQ _ _ (by rw [hx]; rfl)) rfl rfl rfl rfl rfl rfl) rfl ?_
 refine xf [0, 1, 2] rfl rfl ?_ ⟨rfl, qM rfl rfl rfl, rfl, trivial⟩
 rfl
theorem H0 (sn mn : Int) (ns : List (Option Nat)) (R : List (List Int)) (x : PcM) (hx : pcB x = true) (h2 : x.sn < sn) : DPan Tryz.prog 72 [.loc 0 0, .agg (pcD x)] [.mix 118 [.val (.int .u64 sn), .val (.int .i64 mn), .arr 1], .arx 30 1 (ns).length ((ns).flatMap fun o => [cN 2 o]), .fam (jq (R))] (.ifc 125 (.val (.agg #[.int .i64 241]))) [.mix 118 [.val (.int .u64 sn), .val (.int .i64 mn), .arr 1], .arx 30 1 (ns).length ((ns).flatMap fun o => [cN 2 o]), .fam (jq (R))] := by
 refine zap (N := 68) 3 (by kernel_rfl) Tryz.func72 rfl rfl rfl (by simp only [fr0, qbs, qbt]; exact rfl) rfl fun s0 hs0 => ?_
 refine zae ?_
 refine zao 1 ?_
 refine zac ?_
 refine zak rfl (qd 3 rfl (ev1 rfl) rfl) ?_
 refine zab ?_
 refine zah ?_
 refine za rfl (qb rfl kI (ev1 rfl) rfl rfl) ?_
 refine za rfl (zaj [] [] [] rfl (ev1 rfl) (ec (ev1 rfl) en) rfl rfl (gB x) rfl rfl rfl rfl rfl rfl) ?_
 refine za rfl (qm rfl (ev1 rfl) (ev1 rfl)) ?_
 refine za rfl (zaj [] [] [] rfl (ev1 rfl) (ec (ev1 rfl) (ec (ev1 rfl) en)) rfl rfl (qR _ _ (by rw [hx]; rfl)) rfl rfl rfl rfl rfl rfl) ?_
 refine zab ?_
 refine zae ?_
 refine gt 8 [([], []), ([3], []), ([], []), ([], []), ([], []), ([], []), ([0], []), ([], [])] qP (by kernel_rfl) rfl rfl ?_
 refine zad rfl rfl (zam rfl kN (ev1 rfl)) ?_
 refine zad rfl rfl (zan rfl qZ (ev1 rfl) rfl rfl) ?_
 refine zad rfl rfl (zal (.inl rfl) (ev1 rfl)) ?_
 refine zad rfl rfl (qt rfl (ev1 rfl) (fun s v h => by cases h; exact ⟨_, rfl⟩)) ?_
 refine zad rfl rfl (zam rfl ka (ev1 rfl)) ?_
 refine zad rfl rfl (zam rfl kQ (ev1 rfl)) ?_
 refine zad rfl rfl (zan rfl qZ (ev1 rfl) rfl rfl) ?_
 refine zad rfl rfl (jh rfl (ev1 rfl) (ev1 rfl)) ?_
 refine qk ⟨_, _, _, rfl, qw [] [] [] rfl (ev1 rfl) (ec (ev1 rfl) (ec (ev1 rfl) en)) rfl rfl (jQ _ _ (by simp; omega)) rfl rfl rfl rfl rfl rfl, ?_⟩
 refine xf [0, 1, 2] rfl rfl ?_ ⟨rfl, qM rfl rfl rfl, rfl, trivial⟩
 rfl
theorem H1 (sn mn : Int) (ns : List (Option Nat)) (R : List (List Int)) (x : PcM) (hx : pcB x = true) (h2 : x.sn = sn) (h3 : x.mn ≠ mn) : DPan Tryz.prog 72 [.loc 0 0, .agg (pcD x)] [.mix 118 [.val (.int .u64 sn), .val (.int .i64 mn), .arr 1], .arx 30 1 (ns).length ((ns).flatMap fun o => [cN 2 o]), .fam (jq (R))] (.ifc 125 (.val (.agg #[.int .i64 311]))) [.mix 118 [.val (.int .u64 sn), .val (.int .i64 mn), .arr 1], .arx 30 1 (ns).length ((ns).flatMap fun o => [cN 2 o]), .fam (jq (R))] := by
 refine zap (N := 68) 3 (by kernel_rfl) Tryz.func72 rfl rfl rfl (by simp only [fr0, qbs, qbt]; exact rfl) rfl fun s0 hs0 => ?_
 refine zae ?_
 refine zao 1 ?_
 refine zac ?_
 refine zak rfl (qd 3 rfl (ev1 rfl) rfl) ?_
 refine zab ?_
 refine zah ?_
 refine za rfl (qb rfl kI (ev1 rfl) rfl rfl) ?_
 refine za rfl (zaj [] [] [] rfl (ev1 rfl) (ec (ev1 rfl) en) rfl rfl (gB x) rfl rfl rfl rfl rfl rfl) ?_
 refine za rfl (qm rfl (ev1 rfl) (ev1 rfl)) ?_
 refine za rfl (zaj [] [] [] rfl (ev1 rfl) (ec (ev1 rfl) (ec (ev1 rfl) en)) rfl rfl (qR _ _ (by rw [hx]; rfl)) rfl rfl rfl rfl rfl rfl) ?_
 refine zab ?_
 refine zae ?_
 refine qg [([], []), ([3], []), ([], []), ([], []), ([], []), ([], []), ([0], []), ([], []), ([], [])] qP (by kernel_rfl) ?_
 refine zad rfl rfl (zam rfl kN (ev1 rfl)) ?_
 refine zad rfl rfl (zan rfl qZ (ev1 rfl) rfl rfl) ?_
 refine zad rfl rfl (zal (.inl rfl) (ev1 rfl)) ?_
 refine zad rfl rfl (qt rfl (ev1 rfl) (fun s v h => by cases h; exact ⟨_, rfl⟩)) ?_
 refine zad rfl rfl (zam rfl ka (ev1 rfl)) ?_
 refine zad rfl rfl (zam rfl kQ (ev1 rfl)) ?_
 refine zad rfl rfl (zan rfl qZ (ev1 rfl) rfl rfl) ?_
 refine zad rfl rfl (jh rfl (ev1 rfl) (ev1 rfl)) ?_
 refine zad rfl rfl (zaj [] [] [] rfl (ev1 rfl) (ec (ev1 rfl) (ec (ev1 rfl) en)) rfl rfl (qR _ _ (by simp; omega)) rfl rfl rfl rfl rfl rfl) ?_
 refine qk ?_
 refine zae ?_
 refine zae ?_
 refine qg [([], []), ([3], []), ([], []), ([], []), ([], []), ([], []), ([0], []), ([], [])] qP (by kernel_rfl) ?_
 refine zad rfl rfl (zam rfl kN (ev1 rfl)) ?_
 refine zad rfl rfl (zan rfl qZ (ev1 rfl) rfl rfl) ?_
 refine zad rfl rfl (zal (.inl rfl) (ev1 rfl)) ?_
 refine zad rfl rfl (qt rfl (ev1 rfl) (fun s v h => by cases h; exact ⟨_, rfl⟩)) ?_
 refine zad rfl rfl (zam rfl ka (ev1 rfl)) ?_
 refine zad rfl rfl (zam rfl kQ (ev1 rfl)) ?_
 refine zad rfl rfl (zan rfl qZ (ev1 rfl) rfl rfl) ?_
 refine zad rfl rfl (kA rfl (ev1 rfl) (ev1 rfl)) ?_
 refine qk ?_
 refine qc rfl (by simp; omega) ?_
 refine zar ?_
 refine zae ?_
 refine gt 8 [([], []), ([3], []), ([], []), ([], []), ([], []), ([], []), ([0], []), ([], [])] qP (by kernel_rfl) rfl rfl ?_
 refine zad rfl rfl (zam rfl k9 (ev1 rfl)) ?_
 refine zad rfl rfl (zan rfl tb3 (ev1 rfl) rfl rfl) ?_
 refine zad rfl rfl (zal (.inl rfl) (ev1 rfl)) ?_
 refine zad rfl rfl (qt rfl (ev1 rfl) (fun s v h => by cases h; exact ⟨_, rfl⟩)) ?_
 refine zad rfl rfl (zam rfl ka (ev1 rfl)) ?_
 refine zad rfl rfl (zam rfl jw (ev1 rfl)) ?_
 refine zad rfl rfl (zan rfl tb3 (ev1 rfl) rfl rfl) ?_
 refine zad rfl rfl (qm rfl (ev1 rfl) (ev1 rfl)) ?_
 refine qk ⟨_, _, _, rfl, qw [] [] [] rfl (ev1 rfl) (ec (ev1 rfl) (ec (ev1 rfl) en)) rfl rfl (jQ _ _ (by simpa using h3)) rfl rfl rfl rfl rfl rfl, ?_⟩
 refine xf [0, 1, 2] rfl rfl ?_ ⟨rfl, qM rfl rfl rfl, rfl, trivial⟩
 rfl
theorem H2 (sn mn : Int) (ns : List (Option Nat)) (R : List (List Int)) (x : PcM) (hx : pcB x = true) (h2 : x.sn = sn) (h3 : x.mn = mn) (h4 : x.ix.toNat < ns.length) (m : Nat) (h5 : ns[x.ix.toNat]? = some (some m)) (hm : m < R.length) (he : emp R[m] = false) : DPan Tryz.prog 72 [.loc 0 0, .agg (pcD x)] [.mix 118 [.val (.int .u64 sn), .val (.int .i64 mn), .arr 1], .arx 30 1 (ns).length ((ns).flatMap fun o => [cN 2 o]), .fam (jq (R))] (.ifc 125 (.val (.agg #[.int .i64 5]))) [.mix 118 [.val (.int .u64 sn), .val (.int .i64 mn), .arr 1], .arx 30 1 (ns).length ((ns).flatMap fun o => [cN 2 o]), .fam (jq (R))] := by
 refine zap (N := 68) 3 (by kernel_rfl) Tryz.func72 rfl rfl rfl (by simp only [fr0, qbs, qbt]; exact rfl) rfl fun s0 hs0 => ?_
 refine zae ?_
 have hpx := pcB_iff.1 hx
 refine zao 1 ?_
 refine zac ?_
 refine zak rfl (qd 3 rfl (ev1 rfl) rfl) ?_
 refine zab ?_
 refine zah ?_
 refine za rfl (qb rfl kI (ev1 rfl) rfl rfl) ?_
 refine za rfl (zaj [] [] [] rfl (ev1 rfl) (ec (ev1 rfl) en) rfl rfl (gB x) rfl rfl rfl rfl rfl rfl) ?_
 refine za rfl (qm rfl (ev1 rfl) (ev1 rfl)) ?_
 refine za rfl (zaj [] [] [] rfl (ev1 rfl) (ec (ev1 rfl) (ec (ev1 rfl) en)) rfl rfl (qR _ _ (by rw [hx]; rfl)) rfl rfl rfl rfl rfl rfl) ?_
 refine zab ?_
 refine zae ?_
 refine qg [([], []), ([3], []), ([], []), ([], []), ([], []), ([], []), ([0], []), ([], []), ([], [])] qP (by kernel_rfl) ?_
 refine zad rfl rfl (zam rfl kN (ev1 rfl)) ?_
 refine zad rfl rfl (zan rfl qZ (ev1 rfl) rfl rfl) ?_
 refine zad rfl rfl (zal (.inl rfl) (ev1 rfl)) ?_
 refine zad rfl rfl (qt rfl (ev1 rfl) (fun s v h => by cases h; exact ⟨_, rfl⟩)) ?_
 refine zad rfl rfl (zam rfl ka (ev1 rfl)) ?_
 refine zad rfl rfl (zam rfl kQ (ev1 rfl)) ?_
 refine zad rfl rfl (zan rfl qZ (ev1 rfl) rfl rfl) ?_
 refine zad rfl rfl (jh rfl (ev1 rfl) (ev1 rfl)) ?_
 refine zad rfl rfl (zaj [] [] [] rfl (ev1 rfl) (ec (ev1 rfl) (ec (ev1 rfl) en)) rfl rfl (qR _ _ (by simp; omega)) rfl rfl rfl rfl rfl rfl) ?_
 refine qk ?_
 refine zae ?_
 refine zae ?_
 refine qg [([], []), ([3], []), ([], []), ([], []), ([], []), ([], []), ([0], []), ([], [])] qP (by kernel_rfl) ?_
 refine zad rfl rfl (zam rfl kN (ev1 rfl)) ?_
 refine zad rfl rfl (zan rfl qZ (ev1 rfl) rfl rfl) ?_
 refine zad rfl rfl (zal (.inl rfl) (ev1 rfl)) ?_
 refine zad rfl rfl (qt rfl (ev1 rfl) (fun s v h => by cases h; exact ⟨_, rfl⟩)) ?_
 refine zad rfl rfl (zam rfl ka (ev1 rfl)) ?_
 refine zad rfl rfl (zam rfl kQ (ev1 rfl)) ?_
 refine zad rfl rfl (zan rfl qZ (ev1 rfl) rfl rfl) ?_
 refine zad rfl rfl (kA rfl (ev1 rfl) (ev1 rfl)) ?_
 refine qk ?_
 refine qc rfl (by simp; omega) ?_
 refine zar ?_
 refine zae ?_
 refine qg [([], []), ([3], []), ([], []), ([], []), ([], []), ([], []), ([0], []), ([], []), ([], [])] qP (by kernel_rfl) ?_
 refine zad rfl rfl (zam rfl k9 (ev1 rfl)) ?_
 refine zad rfl rfl (zan rfl tb3 (ev1 rfl) rfl rfl) ?_
 refine zad rfl rfl (zal (.inl rfl) (ev1 rfl)) ?_
 refine zad rfl rfl (qt rfl (ev1 rfl) (fun s v h => by cases h; exact ⟨_, rfl⟩)) ?_
 refine zad rfl rfl (zam rfl ka (ev1 rfl)) ?_
 refine zad rfl rfl (zam rfl jw (ev1 rfl)) ?_
 refine zad rfl rfl (zan rfl tb3 (ev1 rfl) rfl rfl) ?_
 refine zad rfl rfl (qm rfl (ev1 rfl) (ev1 rfl)) ?_
 refine zad rfl rfl (zaj [] [] [] rfl (ev1 rfl) (ec (ev1 rfl) (ec (ev1 rfl) en)) rfl rfl (qR _ _ (by simpa using h3)) rfl rfl rfl rfl rfl rfl) ?_
 refine qk ?_
 refine zae ?_
 refine gt 11 [([], []), ([], []), ([], []), ([], []), ([0], []), ([], []), ([3], []), ([1], []), ([1], []), ([2], []), ([], [])] qP (by kernel_rfl) rfl rfl ?_
 refine zad rfl rfl (zal (.inl rfl) (ev1 rfl)) ?_
 refine zad rfl rfl (qt rfl (ev1 rfl) (fun s v h => by cases h; exact ⟨_, rfl⟩)) ?_
 refine zad rfl rfl (zam rfl ka (ev1 rfl)) ?_
 refine zad rfl rfl (zam rfl kt (ev1 rfl)) ?_
 refine zad rfl rfl (zan rfl jp (ev1 rfl) rfl rfl) ?_
 refine zad rfl rfl (zam rfl jv (ev1 rfl)) ?_
 refine zad rfl rfl (zan rfl tb3 (ev1 rfl) rfl rfl) ?_
 refine zad rfl rfl (ge (x.ix.toNat) rfl kO (ev1 rfl) (ev1 rfl) rfl (fun _ => by omega) (fun _ => by omega)) ?_
 refine zad rfl rfl (wm rfl kD (ev1 rfl) rfl (YF h5)) ?_
 refine zad rfl rfl (QT rfl qG (ev1 rfl) rfl (vQ hm)) ?_
 refine zad rfl rfl (qm rfl (ev1 rfl) (ev1 rfl)) ?_
 refine qk ⟨_, _, _, rfl, qw [] [] [] rfl (ev1 rfl) (ec (ev1 rfl) (ec (ev1 rfl) en)) rfl rfl (jQ _ _ (he)) rfl rfl rfl rfl rfl rfl, ?_⟩
 refine xf [0, 1, 2] rfl rfl ?_ ⟨rfl, qM rfl rfl rfl, rfl, trivial⟩
 rfl
theorem qbj (sn mn : Int) (ns : List (Option Nat)) (R : List (List Int)) (x : PcM) (hx : pcB x = true) (h2 : x.sn = sn) (h3 : x.mn = mn) (h4 : x.ix.toNat < ns.length) (h5 : ns[x.ix.toNat]? = some none) : DFun Tryz.prog 72 [.loc 0 0, .agg (pcD x)] [.mix 118 [.val (.int .u64 sn), .val (.int .i64 mn), .arr 1], .arx 30 1 (ns).length ((ns).flatMap fun o => [cN 2 o]), .fam (jq (R))] (.tup []) [.mix 118 [.val (.int .u64 sn), .val (.int .i64 mn), .arr 1], .arx 30 1 (ns.length) ((ns.set x.ix.toNat (some R.length)).flatMap fun o => [cN 2 o]), .fam (jq (R ++ [x.b]))] := by
 refine zap (N := 68) 3 (by kernel_rfl) Tryz.func72 rfl rfl rfl (by simp only [fr0, qbs, qbt]; exact rfl) rfl fun s0 hs0 => ?_
 refine zae ?_
 have hpx := pcB_iff.1 hx
 refine zao 1 ?_
 refine zac ?_
 refine zak rfl (qd 3 rfl (ev1 rfl) rfl) ?_
 refine zab ?_
 refine zah ?_
 refine za rfl (qb rfl kI (ev1 rfl) rfl rfl) ?_
 refine za rfl (zaj [] [] [] rfl (ev1 rfl) (ec (ev1 rfl) en) rfl rfl (gB x) rfl rfl rfl rfl rfl rfl) ?_
 refine za rfl (qm rfl (ev1 rfl) (ev1 rfl)) ?_
 refine za rfl (zaj [] [] [] rfl (ev1 rfl) (ec (ev1 rfl) (ec (ev1 rfl) en)) rfl rfl (qR _ _ (by rw [hx]; rfl)) rfl rfl rfl rfl rfl rfl) ?_
 refine zab ?_
 refine zae ?_
 refine qg [([], []), ([3], []), ([], []), ([], []), ([], []), ([], []), ([0], []), ([], []), ([], [])] qP (by kernel_rfl) ?_
 refine zad rfl rfl (zam rfl kN (ev1 rfl)) ?_
 refine zad rfl rfl (zan rfl qZ (ev1 rfl) rfl rfl) ?_
 refine zad rfl rfl (zal (.inl rfl) (ev1 rfl)) ?_
 refine zad rfl rfl (qt rfl (ev1 rfl) (fun s v h => by cases h; exact ⟨_, rfl⟩)) ?_
 refine zad rfl rfl (zam rfl ka (ev1 rfl)) ?_
 refine zad rfl rfl (zam rfl kQ (ev1 rfl)) ?_
 refine zad rfl rfl (zan rfl qZ (ev1 rfl) rfl rfl) ?_
 refine zad rfl rfl (jh rfl (ev1 rfl) (ev1 rfl)) ?_
 refine zad rfl rfl (zaj [] [] [] rfl (ev1 rfl) (ec (ev1 rfl) (ec (ev1 rfl) en)) rfl rfl (qR _ _ (by simp; omega)) rfl rfl rfl rfl rfl rfl) ?_
 refine qk ?_
 refine zae ?_
 refine zae ?_
 refine qg [([], []), ([3], []), ([], []), ([], []), ([], []), ([], []), ([0], []), ([], [])] qP (by kernel_rfl) ?_
 refine zad rfl rfl (zam rfl kN (ev1 rfl)) ?_
 refine zad rfl rfl (zan rfl qZ (ev1 rfl) rfl rfl) ?_
 refine zad rfl rfl (zal (.inl rfl) (ev1 rfl)) ?_
 refine zad rfl rfl (qt rfl (ev1 rfl) (fun s v h => by cases h; exact ⟨_, rfl⟩)) ?_
 refine zad rfl rfl (zam rfl ka (ev1 rfl)) ?_
 refine zad rfl rfl (zam rfl kQ (ev1 rfl)) ?_
 refine zad rfl rfl (zan rfl qZ (ev1 rfl) rfl rfl) ?_
 refine zad rfl rfl (kA rfl (ev1 rfl) (ev1 rfl)) ?_
 refine qk ?_
 refine qc rfl (by simp; omega) ?_
 refine zar ?_
 refine zae ?_
 refine qg [([], []), ([3], []), ([], []), ([], []), ([], []), ([], []), ([0], []), ([], []), ([], [])] qP (by kernel_rfl) ?_
 refine zad rfl rfl (zam rfl k9 (ev1 rfl)) ?_
 refine zad rfl rfl (zan rfl tb3 (ev1 rfl) rfl rfl) ?_
 refine zad rfl rfl (zal (.inl rfl) (ev1 rfl)) ?_
 refine zad rfl rfl (qt rfl (ev1 rfl) (fun s v h => by cases h; exact ⟨_, rfl⟩)) ?_
 refine zad rfl rfl (zam rfl ka (ev1 rfl)) ?_
 refine zad rfl rfl (zam rfl jw (ev1 rfl)) ?_
 refine zad rfl rfl (zan rfl tb3 (ev1 rfl) rfl rfl) ?_
 refine zad rfl rfl (qm rfl (ev1 rfl) (ev1 rfl)) ?_
 refine zad rfl rfl (zaj [] [] [] rfl (ev1 rfl) (ec (ev1 rfl) (ec (ev1 rfl) en)) rfl rfl (qR _ _ (by simpa using h3)) rfl rfl rfl rfl rfl rfl) ?_
 refine qk ?_
 refine zae ?_
 refine qg [([], []), ([], []), ([], []), ([], []), ([0], []), ([], []), ([3], []), ([1], []), ([1], []), ([], []), ([], []), ([], [])] qP (by kernel_rfl) ?_
 refine zad rfl rfl (zal (.inl rfl) (ev1 rfl)) ?_
 refine zad rfl rfl (qt rfl (ev1 rfl) (fun s v h => by cases h; exact ⟨_, rfl⟩)) ?_
 refine zad rfl rfl (zam rfl ka (ev1 rfl)) ?_
 refine zad rfl rfl (zam rfl kt (ev1 rfl)) ?_
 refine zad rfl rfl (zan rfl jp (ev1 rfl) rfl rfl) ?_
 refine zad rfl rfl (zam rfl jv (ev1 rfl)) ?_
 refine zad rfl rfl (zan rfl tb3 (ev1 rfl) rfl rfl) ?_
 refine zad rfl rfl (ge (x.ix.toNat) rfl kO (ev1 rfl) (ev1 rfl) rfl (fun _ => by omega) (fun _ => by omega)) ?_
 refine zad rfl rfl (wm rfl kD (ev1 rfl) rfl (YF h5)) ?_
 refine zad rfl rfl (qE rfl qG (ev1 rfl)) ?_
 refine zad rfl rfl (qm rfl (ev1 rfl) (ev1 rfl)) ?_
 refine zad rfl rfl (zaj [] [] [] rfl (ev1 rfl) (ec (ev1 rfl) (ec (ev1 rfl) en)) rfl rfl (qR _ _ (rfl)) rfl rfl rfl rfl rfl rfl) ?_
 refine qk ?_
 refine qg [([], []), ([], []), ([], []), ([], []), ([0], []), ([], []), ([3], []), ([], []), ([3], []), ([2], [2]), ([1], []), ([1], [1])] qP (by kernel_rfl) ?_
 refine zad rfl rfl (zal (.inl rfl) (ev1 rfl)) ?_
 refine zad rfl rfl (qt rfl (ev1 rfl) (fun s v h => by cases h; exact ⟨_, rfl⟩)) ?_
 refine zad rfl rfl (zam rfl ka (ev1 rfl)) ?_
 refine zad rfl rfl (zam rfl kt (ev1 rfl)) ?_
 refine zad rfl rfl (zan rfl jp (ev1 rfl) rfl rfl) ?_
 refine zad rfl rfl (zam rfl jv (ev1 rfl)) ?_
 refine zad rfl rfl (zan rfl tb3 (ev1 rfl) rfl rfl) ?_
 refine zad rfl rfl (zam rfl yd (ev1 rfl)) ?_
 refine zad rfl rfl (zan rfl kD (ev1 rfl) rfl rfl) ?_
 refine gE rfl rfl (zaj [2] [] [] rfl (ev1 rfl) (ec (ev1 rfl) en) rfl rfl (Kd x.b (by omega) R _ rfl) rfl rfl rfl rfl rfl rfl) rfl (by simp only [upd, zaf, zag]; exact rfl) ?_
 refine zad rfl rfl (ge (x.ix.toNat) rfl kO (ev1 rfl) (ev1 rfl) rfl (fun _ => by omega) (fun _ => by omega)) ?_
 refine j0 rfl rfl (yD (j := x.ix.toNat) (g := (cN 2)) (q := (some R.length)) rfl kD (ev1 rfl) (ev1 rfl) rfl (by omega) (fun s v h => by cases h <;> exact ⟨rfl, rfl⟩)) rfl (by simp only [upd, zaf, zag]; exact rfl) ?_
 refine qk ?_
 refine ko [0, 1, 2] (qH rfl) rfl rfl ?_ ⟨?_, ?_, ?_, trivial⟩
 rfl
 rfl
 exact qM rfl rfl rfl
 rfl
theorem qbk (sn mn : Int) (ns : List (Option Nat)) (R : List (List Int)) (x : PcM) (hx : pcB x = true) (h2 : sn < x.sn) : DFun Tryz.prog 72 [.loc 0 0, .agg (pcD x)] [.mix 118 [.val (.int .u64 sn), .val (.int .i64 mn), .arr 1], .arx 30 1 (ns).length ((ns).flatMap fun o => [cN 2 o]), .fam (jq (R))] (.tup []) [.mix 118 [.val (.int .u64 x.sn), .val (.int .i64 x.mn), .arr 3], .arx 30 1 (ns).length ((ns).flatMap fun o => [cN 2 o]), .fam (jq (R ++ [x.b])), .arx 30 1 (x.mn.toNat) (((qbH x.mn.toNat (none : Option Nat)).set x.ix.toNat (some R.length)).flatMap fun o => [cN 2 o])] := by
 refine zap (N := 68) 3 (by kernel_rfl) Tryz.func72 rfl rfl rfl (by simp only [fr0, qbs, qbt]; exact rfl) rfl fun s0 hs0 => ?_
 refine zae ?_
 have hpx := pcB_iff.1 hx
 refine zao 1 ?_
 refine zac ?_
 refine zak rfl (qd 3 rfl (ev1 rfl) rfl) ?_
 refine zab ?_
 refine zah ?_
 refine za rfl (qb rfl kI (ev1 rfl) rfl rfl) ?_
 refine za rfl (zaj [] [] [] rfl (ev1 rfl) (ec (ev1 rfl) en) rfl rfl (gB x) rfl rfl rfl rfl rfl rfl) ?_
 refine za rfl (qm rfl (ev1 rfl) (ev1 rfl)) ?_
 refine za rfl (zaj [] [] [] rfl (ev1 rfl) (ec (ev1 rfl) (ec (ev1 rfl) en)) rfl rfl (qR _ _ (by rw [hx]; rfl)) rfl rfl rfl rfl rfl rfl) ?_
 refine zab ?_
 refine zae ?_
 refine qg [([], []), ([3], []), ([], []), ([], []), ([], []), ([], []), ([0], []), ([], []), ([], [])] qP (by kernel_rfl) ?_
 refine zad rfl rfl (zam rfl kN (ev1 rfl)) ?_
 refine zad rfl rfl (zan rfl qZ (ev1 rfl) rfl rfl) ?_
 refine zad rfl rfl (zal (.inl rfl) (ev1 rfl)) ?_
 refine zad rfl rfl (qt rfl (ev1 rfl) (fun s v h => by cases h; exact ⟨_, rfl⟩)) ?_
 refine zad rfl rfl (zam rfl ka (ev1 rfl)) ?_
 refine zad rfl rfl (zam rfl kQ (ev1 rfl)) ?_
 refine zad rfl rfl (zan rfl qZ (ev1 rfl) rfl rfl) ?_
 refine zad rfl rfl (jh rfl (ev1 rfl) (ev1 rfl)) ?_
 refine zad rfl rfl (zaj [] [] [] rfl (ev1 rfl) (ec (ev1 rfl) (ec (ev1 rfl) en)) rfl rfl (qR _ _ (by simp; omega)) rfl rfl rfl rfl rfl rfl) ?_
 refine qk ?_
 refine zae ?_
 refine zae ?_
 refine qg [([], []), ([3], []), ([], []), ([], []), ([], []), ([], []), ([0], []), ([], [])] qP (by kernel_rfl) ?_
 refine zad rfl rfl (zam rfl kN (ev1 rfl)) ?_
 refine zad rfl rfl (zan rfl qZ (ev1 rfl) rfl rfl) ?_
 refine zad rfl rfl (zal (.inl rfl) (ev1 rfl)) ?_
 refine zad rfl rfl (qt rfl (ev1 rfl) (fun s v h => by cases h; exact ⟨_, rfl⟩)) ?_
 refine zad rfl rfl (zam rfl ka (ev1 rfl)) ?_
 refine zad rfl rfl (zam rfl kQ (ev1 rfl)) ?_
 refine zad rfl rfl (zan rfl qZ (ev1 rfl) rfl rfl) ?_
 refine zad rfl rfl (kA rfl (ev1 rfl) (ev1 rfl)) ?_
 refine qk ?_
 refine qJ rfl (by simp; omega) ?_
 refine zao 1 ?_
 refine qg [([], []), ([], []), ([3], []), ([], []), ([3], []), ([], []), ([3], []), ([4], [4]), ([], []), ([], []), ([], []), ([0], [0])] qP (by kernel_rfl) ?_
 refine zad rfl rfl (zal (.inl rfl) (ev1 rfl)) ?_
 refine zad rfl rfl (zam rfl kN (ev1 rfl)) ?_
 refine zad rfl rfl (zan rfl qZ (ev1 rfl) rfl rfl) ?_
 refine zad rfl rfl (zam rfl k9 (ev1 rfl)) ?_
 refine zad rfl rfl (zan rfl tb3 (ev1 rfl) rfl rfl) ?_
 refine zad rfl rfl (zam rfl k9 (ev1 rfl)) ?_
 refine zad rfl rfl (zan rfl tb3 (ev1 rfl) rfl rfl) ?_
 refine gE rfl rfl (xj 4 (x.mn.toNat) (.slice none 0 0) rfl kO uU (rfl) (by decide) (ev1 rfl) (ev1 rfl) (fun _ => by omega) (fun _ => by omega) rfl (fun _ => by omega)) rfl (by simp only [upd, zaf, zag]; exact rfl) ?_
 refine zad rfl rfl (jZ (ps := [(0, .tmp 27), (1, .tmp 29), (2, .tmp 32)]) rfl J4 jR (ec (ev1 rfl) (ec (ev1 rfl) (ec (ev1 rfl) en))) rfl rfl rfl) ?_
 refine zad rfl rfl (qt rfl (ev1 rfl) (fun s v h => by cases h; exact ⟨_, rfl⟩)) ?_
 refine zad rfl rfl (zam rfl ka (ev1 rfl)) ?_
 refine j0 rfl rfl (wK rfl qS (ev1 rfl) (ev1 rfl) rfl rfl rfl rfl) rfl (by simp only [upd, zaf, zag]; exact rfl) ?_
 refine qk ?_
 refine zae ?_
 refine jg 4 (Jj (f := 2)) rfl rfl (by simp only [qbD, qbF, zaf, zag, List.map]; exact rfl) ?_
 refine qg [([], []), ([3], []), ([], []), ([], []), ([], []), ([], []), ([0], []), ([], []), ([], [])] qP (by kernel_rfl) ?_
 refine zad rfl rfl (zam rfl k9 (ev1 rfl)) ?_
 refine zad rfl rfl (zan rfl tb3 (ev1 rfl) rfl rfl) ?_
 refine zad rfl rfl (zal (.inl rfl) (ev1 rfl)) ?_
 refine zad rfl rfl (qt rfl (ev1 rfl) (fun s v h => by cases h; exact ⟨_, rfl⟩)) ?_
 refine zad rfl rfl (zam rfl ka (ev1 rfl)) ?_
 refine zad rfl rfl (zam rfl jw (ev1 rfl)) ?_
 refine zad rfl rfl (zan rfl tb3 (ev1 rfl) rfl rfl) ?_
 refine zad rfl rfl (qm rfl (ev1 rfl) (ev1 rfl)) ?_
 refine zad rfl rfl (zaj [] [] [] rfl (ev1 rfl) (ec (ev1 rfl) (ec (ev1 rfl) en)) rfl rfl (qR _ _ (by simp)) rfl rfl rfl rfl rfl rfl) ?_
 refine qk ?_
 refine zae ?_
 refine qg [([], []), ([], []), ([], []), ([], []), ([0], []), ([], []), ([3], []), ([4], []), ([4], []), ([], []), ([], []), ([], [])] qP (by kernel_rfl) ?_
 refine zad rfl rfl (zal (.inl rfl) (ev1 rfl)) ?_
 refine zad rfl rfl (qt rfl (ev1 rfl) (fun s v h => by cases h; exact ⟨_, rfl⟩)) ?_
 refine zad rfl rfl (zam rfl ka (ev1 rfl)) ?_
 refine zad rfl rfl (zam rfl kt (ev1 rfl)) ?_
 refine zad rfl rfl (zan rfl jp (ev1 rfl) rfl rfl) ?_
 refine zad rfl rfl (zam rfl jv (ev1 rfl)) ?_
 refine zad rfl rfl (zan rfl tb3 (ev1 rfl) rfl rfl) ?_
 refine zad rfl rfl (ge (x.ix.toNat) rfl kO (ev1 rfl) (ev1 rfl) rfl (fun _ => by omega) (fun _ => by omega)) ?_
 refine zad rfl rfl (wm rfl kD (ev1 rfl) rfl (YF (by rw [List.getElem?_replicate, if_pos (by omega)]))) ?_
 refine zad rfl rfl (qE rfl qG (ev1 rfl)) ?_
 refine zad rfl rfl (qm rfl (ev1 rfl) (ev1 rfl)) ?_
 refine zad rfl rfl (zaj [] [] [] rfl (ev1 rfl) (ec (ev1 rfl) (ec (ev1 rfl) en)) rfl rfl (qR _ _ (rfl)) rfl rfl rfl rfl rfl rfl) ?_
 refine qk ?_
 refine qg [([], []), ([], []), ([], []), ([], []), ([0], []), ([], []), ([3], []), ([], []), ([3], []), ([2], [2]), ([4], []), ([4], [4])] qP (by kernel_rfl) ?_
 refine zad rfl rfl (zal (.inl rfl) (ev1 rfl)) ?_
 refine zad rfl rfl (qt rfl (ev1 rfl) (fun s v h => by cases h; exact ⟨_, rfl⟩)) ?_
 refine zad rfl rfl (zam rfl ka (ev1 rfl)) ?_
 refine zad rfl rfl (zam rfl kt (ev1 rfl)) ?_
 refine zad rfl rfl (zan rfl jp (ev1 rfl) rfl rfl) ?_
 refine zad rfl rfl (zam rfl jv (ev1 rfl)) ?_
 refine zad rfl rfl (zan rfl tb3 (ev1 rfl) rfl rfl) ?_
 refine zad rfl rfl (zam rfl yd (ev1 rfl)) ?_
 refine zad rfl rfl (zan rfl kD (ev1 rfl) rfl rfl) ?_
 refine gE rfl rfl (zaj [2] [] [] rfl (ev1 rfl) (ec (ev1 rfl) en) rfl rfl (Kd x.b (by omega) R _ rfl) rfl rfl rfl rfl rfl rfl) rfl (by simp only [upd, zaf, zag]; exact rfl) ?_
 refine zad rfl rfl (ge (x.ix.toNat) rfl kO (ev1 rfl) (ev1 rfl) rfl (fun _ => by omega) (fun _ => by omega)) ?_
 refine j0 rfl rfl (yD (j := x.ix.toNat) (g := (cN 2)) (q := (some R.length)) rfl kD (ev1 rfl) (ev1 rfl) rfl (by rw [qbN]; omega) (fun s v h => by cases h <;> exact ⟨rfl, rfl⟩)) rfl (by simp only [upd, zaf, zag]; exact rfl) ?_
 refine qk ?_
 refine ko [0, 1, 2, 4] (qH rfl) rfl rfl ?_ ⟨?_, ?_, ?_, ?_, trivial⟩
 rfl
 rfl
 exact qM rfl rfl rfl
 rfl
 exact qM rfl rfl rfl
end Go.Proofs.YtofklkbfkoliiaaGreat
