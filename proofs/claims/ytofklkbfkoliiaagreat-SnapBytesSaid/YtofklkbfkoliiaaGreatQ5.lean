/- a tile that is read; a tile that is read, whole; tiles and sizes that are read; tiles that are read, one behind the other; tiles that are read, all; canvases that are read; canvases as bytes; canvases and patches, whole; A variable that holds one value with an address, then numbers, then another value with an address: its numbers told as one list; wakes; octet: readers; Numbers, ids, colours, as bytes; Ids, places, colours, stamps, as bytes; Operations, as bytes, kind by kind; Operations, as bytes; Rows of operations, and vectors, as bytes; What the laws of codes ask; Vectors, as bytes; Fields one by one; bytes of numbers; what is taken, step by step; laying: numbers and ids; laying: vectors; taking: numbers; taking: vectors. No condition. -/
import Derived.Test.YtofklkbfkoliiaaGreatQ4
import Derived.Test.YtofklkbfkoliiaaGreatRows
set_option maxRecDepth 4000
set_option maxHeartbeats 1000000
open List renaming getElem?_eq_some_iff → qbd, getElem?_eq_getElem → qbe, length_append → qbf, cons_append → qbp, nil_append → qbq, replicate → qbs, length_replicate → qbv, flatMap_cons → qbB, length_cons → qbC, length_take → qbD, getElem?_append_right → qbG, eq_nil_of_length_eq_zero → qbH, getD_eq_getElem?_getD → qbI, take_of_length_le → qbJ, take_succ_eq_append_getElem → qbK, append_assoc → qbM, length_nil → qbQ, mem_cons_self → qbR, mem_cons_of_mem → qbT, append_nil → qbV
open Go.IntWalk renaming i64_in → qbg
open Nat renaming zero_add → qbh, reduceAdd → qbj, le_of_ble_eq_true → qbr, le_refl → qby, le_trans → qbE, zero_le → qbO, lt_of_succ_le → qbP, succ_mul → qbX
open Bool renaming and_eq_true → qbi, or_eq_false_iff → qbk, not_eq_true' → qbl, not_eq_false' → qbm, or_eq_true → qbo
open Int renaming not_lt → qbz, not_le → qbA, toNat_natCast → qbS
namespace Go.Proofs.YtofklkbfkoliiaaGreat
set_option linter.unusedVariables false
set_option linter.unusedSimpArgs false
open Go.RowKit
attribute [local irreducible] kt rdP rdN ya
noncomputable def YS : Code := rfA (pth [1, 0, 1, 1, 1, 0, 1, 0] (wO Tryz.f133))
noncomputable def YT : Code := rfB (pth [1, 0, 1, 1, 1, 0, 1, 0] (wO Tryz.f133))
theorem tr_y (acc : List C4) (n : Int) (c : C4) (ha : acc.length < 64) (hm : ya acc n c = true) (hn : acc.length + n.toNat < 64) : DRound Tryz.prog 0 [.val (.agg (runI (n, c)).toArray)] [.lp (some 133) 48 [(3, .loc 1 0), (4, .loc 2 0)] #[8] YS YT .ready none, .flat 84 (tc (kt acc)), .flat 3 [.int .i64 (acc.length : Int)]] true [.lp (some 133) 48 [(3, .loc 1 0), (4, .loc 2 0)] #[8] YS YT .ready none, .flat 84 (tc (kt (acc ++ qbs n.toNat c))), .flat 3 [.int .i64 ((acc.length + n.toNat : Nat) : Int)]] := by
 have hmg := mayG_iff.1 hm
 refine yZ 3 rfl rfl (by simp) rfl rfl fun s0 hs0 => ?_
 refine zam 1 ?_
 refine zac ?_
 refine zal rfl (zan 3 rfl uB rfl) ?_
 refine zaq rfl (qr rfl JN (ev1 rfl) (ev1 rfl) rfl rfl rfl rfl) ?_
 refine zab ?_
 refine ⟨rfl, ?_⟩
 simp only [zaf, zag]
 refine zav ?_
 refine zad ?_
 refine zad ?_
 refine qh [([], []), ([3], []), ([], []), ([], []), ([], []), ([3], []), ([2], []), ([], []), ([], []), ([], []), ([], []), ([2], []), ([], []), ([], []), ([2], []), ([], []), ([], []), ([1], []), ([], []), ([3], []), ([], []), ([], []), ([], [])] qJ (by kernel_rfl) ?_
 refine zae rfl rfl (zas rfl g8 (ev1 rfl)) ?_
 refine zae rfl rfl (qx rfl tb3 (ev1 rfl) rfl rfl) ?_
 refine zae rfl rfl (qq rfl (ev1 rfl) (ev1 rfl)) ?_
 refine zae rfl rfl (zaj (.inl rfl) (ev1 rfl)) ?_
 refine zar (qa rfl rfl rfl) rfl rfl (zas rfl g8 (ev1 rfl)) ?_
 refine zar (qa rfl rfl rfl) rfl rfl (qx rfl tb3 (ev2 rfl) rfl rfl) ?_
 refine zar (qa rfl rfl rfl) rfl rfl (qx rfl tb3 (ev1 rfl) rfl rfl) ?_
 refine zar (qa rfl rfl rfl) rfl rfl (je rfl (ev1 rfl) (ev2 rfl) (fun hp => qbg _ (by first | omega | (simp at hp; omega)))) ?_
 refine zar (qa rfl rfl rfl) rfl rfl (kg rfl (ev2 rfl) (ev2 rfl)) ?_
 refine zae rfl rfl (qK rfl (ev1 rfl) (ev3 rfl id)) ?_
 refine zae rfl rfl (zaj (.inl rfl) (ev1 rfl)) ?_
 refine zar (qa rfl rfl rfl) rfl rfl (qx rfl tb3 (ev1 rfl) rfl rfl) ?_
 refine zar (qa rfl rfl rfl) rfl rfl (kg rfl (ev2 rfl) (ev1 rfl)) ?_
 refine zar (qa rfl rfl rfl) rfl rfl (zaj (.inl rfl) (ev2 rfl)) ?_
 refine zar (jj rfl rfl rfl) rfl rfl (qx rfl tb3 (ev1 rfl) rfl rfl) ?_
 refine zar (jj rfl rfl rfl) rfl rfl (je rfl (ev2 rfl) (ev1 rfl) (fun hp => qbg _ (by first | omega | (simp at hp; omega)))) ?_
 refine zar (jj rfl rfl rfl) rfl rfl (gr (j := acc.length - 1) rfl vE (ev1 rfl) (ev2 rfl) (fun hp => by first | omega | (simp at hp; omega)) (fun hp => by first | omega | (simp at hp; omega))) ?_
 refine zar (jj rfl rfl rfl) rfl rfl (uk (zC4) rfl yG (ev2 rfl) rfl (fun _ => rfl) (fun _ => by rw [TL.h]; omega)) ?_
 refine zar (jj rfl rfl rfl) rfl rfl (zas rfl yB (ev1 rfl)) ?_
 refine zar (jj rfl rfl rfl) rfl rfl (wJ rfl yG (ev2 rfl) rfl rfl rfl) ?_
 refine zar (jj rfl rfl rfl) rfl rfl (jY UW rfl U3 yG (ev2 rfl) (ev2 rfl)) ?_
 refine zar (qa rfl rfl rfl) rfl rfl (qF rfl (ev2 rfl) (ev2 rfl)) ?_
 refine zae rfl rfl (qK rfl (ev1 rfl) (ev3 rfl id)) ?_
 refine ql ?_
 refine qf rfl ((QR ha).trans (by rw [hm]; rfl)) ?_
 refine zao ?_
 refine zad ?_
 refine zai ?_
 refine za rfl (zas rfl g8 (ev1 rfl)) ?_
 refine za rfl (qx rfl tb3 (ev1 rfl) rfl rfl) ?_
 refine zaa 1 rfl ?_
 refine zab ?_
 refine zav ?_
 refine qE ⟨hs0, rfl⟩ (α := Nat) (fun k => [(36, .val (.int .i64 (k : Int)))]) [(3, _), (4, _), (5, _), (35, _)] (fun k => [(1, .flat 84 (tc (kt (acc ++ qbs k c)))), (2, .flat 3 [.int .i64 ((acc.length + k : Nat) : Int)])]) [_, .hole, .hole, _] (fun k => k ≤ n.toNat) (fun k => n.toNat - k) 0 [0, 1, 2, 3] (qbO _) rfl ⟨rfl, rfl, rfl, rfl, trivial⟩ ⟨rfl, trivial⟩ ⟨rfl, by rw [List.replicate_zero, qbV]; rfl, rfl, rfl, trivial⟩ ?_
 intro k hx
 simp only [upd, zaf, zag, qbp, qbq]
 have hk0 := hx
 refine zai ?_
 refine za rfl (qq rfl (ev1 rfl) (ev1 rfl)) ?_
 refine zab ?_
 refine zad ?_
 refine qi rfl (fun c2 => ?_) (fun c2 => ?_)
 ·try simp only [decide_eq_true_eq, decide_eq_false_iff_not, beq_iff_eq, bne_iff_ne, beq_eq_false_iff_ne, bne_eq_false_iff_eq, qbl, qbm, qbi, qbo, qbk, ne_eq, Decidable.not_not, qbz, qbA] at c2
  refine zao ?_
  refine zad ?_
  refine zav ?_
  refine zai ?_
  refine za rfl (qx rfl tb3 (ev1 rfl) rfl rfl) ?_
  refine za rfl (zas rfl yB (ev1 rfl)) ?_
  refine za rfl (wJ rfl yG (ev1 rfl) rfl rfl rfl) ?_
  refine za rfl (gr (j := acc.length + k) rfl vE (ev1 rfl) (ev1 rfl) (fun _ => by omega) (fun _ => by omega)) ?_
  refine zaq rfl (wb rfl yG (ev1 rfl) (ev1 rfl) rfl rfl rfl (fun _ => rfl) (fun _ => by rw [TL.h]; omega)) ?_
  refine zab ?_
  refine zac ?_
  refine za rfl (qx rfl tb3 (ev1 rfl) rfl rfl) ?_
  refine za rfl (qc rfl (ev1 rfl) (ev1 rfl) (fun _ => qbg _ (by omega))) ?_
  refine zaq rfl (qN rfl tb3 (ev1 rfl) (ev1 rfl) rfl) ?_
  refine zab ?_
  refine zac ?_
  refine za rfl (qc rfl (ev1 rfl) (ev1 rfl) (fun _ => qbg _ (by omega))) ?_
  refine zaa 1 rfl ?_
  refine zab ?_
  refine ⟨k + 1, [0, 1, 2, 3], by omega, by simp only []; omega, rfl, ⟨rfl, rfl, rfl, rfl, rfl, trivial⟩, ⟨rfl, by rw [KF, wU (by omega)]; rfl, rfl, rfl, trivial⟩⟩
 ·try simp only [decide_eq_true_eq, decide_eq_false_iff_not, beq_iff_eq, bne_iff_ne, beq_eq_false_iff_ne, bne_eq_false_iff_eq, qbl, qbm, qbi, qbo, qbk, ne_eq, Decidable.not_not, qbz, qbA] at c2
  refine qz ?_
  refine zai ?_
  refine za rfl (qx rfl tb3 (ev1 rfl) rfl rfl) ?_
  refine za rfl (qj rfl (ev1 rfl) (ev1 rfl)) ?_
  refine zab ?_
  refine qf rfl (by simp; omega) ?_
  refine zao ?_
  obtain rfl : k = n.toNat := by omega
  refine ⟨by first | rfl | assumption | simp_all, rfl, [0, 1, 2], rfl, ⟨rfl, rfl, rfl, trivial⟩⟩
theorem tr_z (acc : List C4) (n : Int) (c : C4) (ha : acc.length < 64) (hm : ya acc n c = true) (hn : acc.length + n.toNat = 64) : DRound Tryz.prog 0 [.val (.agg (runI (n, c)).toArray)] [.lp (some 133) 48 [(3, .loc 1 0), (4, .loc 2 0)] #[8] YS YT .ready none, .flat 84 (tc (kt acc)), .flat 3 [.int .i64 (acc.length : Int)]] false [.lp (some 133) 48 [(3, .loc 1 0), (4, .loc 2 0)] #[8] YS YT .done (some (.exit 0)), .flat 84 (tc (kt (acc ++ qbs n.toNat c))), .flat 3 [.int .i64 ((acc.length + n.toNat : Nat) : Int)]] := by
 have hmg := mayG_iff.1 hm
 refine yZ 3 rfl rfl (by simp) rfl rfl fun s0 hs0 => ?_
 refine zam 1 ?_
 refine zac ?_
 refine zal rfl (zan 3 rfl uB rfl) ?_
 refine zaq rfl (qr rfl JN (ev1 rfl) (ev1 rfl) rfl rfl rfl rfl) ?_
 refine zab ?_
 refine ⟨rfl, ?_⟩
 simp only [zaf, zag]
 refine zav ?_
 refine zad ?_
 refine zad ?_
 refine qh [([], []), ([3], []), ([], []), ([], []), ([], []), ([3], []), ([2], []), ([], []), ([], []), ([], []), ([], []), ([2], []), ([], []), ([], []), ([2], []), ([], []), ([], []), ([1], []), ([], []), ([3], []), ([], []), ([], []), ([], [])] qJ (by kernel_rfl) ?_
 refine zae rfl rfl (zas rfl g8 (ev1 rfl)) ?_
 refine zae rfl rfl (qx rfl tb3 (ev1 rfl) rfl rfl) ?_
 refine zae rfl rfl (qq rfl (ev1 rfl) (ev1 rfl)) ?_
 refine zae rfl rfl (zaj (.inl rfl) (ev1 rfl)) ?_
 refine zar (qa rfl rfl rfl) rfl rfl (zas rfl g8 (ev1 rfl)) ?_
 refine zar (qa rfl rfl rfl) rfl rfl (qx rfl tb3 (ev2 rfl) rfl rfl) ?_
 refine zar (qa rfl rfl rfl) rfl rfl (qx rfl tb3 (ev1 rfl) rfl rfl) ?_
 refine zar (qa rfl rfl rfl) rfl rfl (je rfl (ev1 rfl) (ev2 rfl) (fun hp => qbg _ (by first | omega | (simp at hp; omega)))) ?_
 refine zar (qa rfl rfl rfl) rfl rfl (kg rfl (ev2 rfl) (ev2 rfl)) ?_
 refine zae rfl rfl (qK rfl (ev1 rfl) (ev3 rfl id)) ?_
 refine zae rfl rfl (zaj (.inl rfl) (ev1 rfl)) ?_
 refine zar (qa rfl rfl rfl) rfl rfl (qx rfl tb3 (ev1 rfl) rfl rfl) ?_
 refine zar (qa rfl rfl rfl) rfl rfl (kg rfl (ev2 rfl) (ev1 rfl)) ?_
 refine zar (qa rfl rfl rfl) rfl rfl (zaj (.inl rfl) (ev2 rfl)) ?_
 refine zar (jj rfl rfl rfl) rfl rfl (qx rfl tb3 (ev1 rfl) rfl rfl) ?_
 refine zar (jj rfl rfl rfl) rfl rfl (je rfl (ev2 rfl) (ev1 rfl) (fun hp => qbg _ (by first | omega | (simp at hp; omega)))) ?_
 refine zar (jj rfl rfl rfl) rfl rfl (gr (j := acc.length - 1) rfl vE (ev1 rfl) (ev2 rfl) (fun hp => by first | omega | (simp at hp; omega)) (fun hp => by first | omega | (simp at hp; omega))) ?_
 refine zar (jj rfl rfl rfl) rfl rfl (uk (zC4) rfl yG (ev2 rfl) rfl (fun _ => rfl) (fun _ => by rw [TL.h]; omega)) ?_
 refine zar (jj rfl rfl rfl) rfl rfl (zas rfl yB (ev1 rfl)) ?_
 refine zar (jj rfl rfl rfl) rfl rfl (wJ rfl yG (ev2 rfl) rfl rfl rfl) ?_
 refine zar (jj rfl rfl rfl) rfl rfl (jY UW rfl U3 yG (ev2 rfl) (ev2 rfl)) ?_
 refine zar (qa rfl rfl rfl) rfl rfl (qF rfl (ev2 rfl) (ev2 rfl)) ?_
 refine zae rfl rfl (qK rfl (ev1 rfl) (ev3 rfl id)) ?_
 refine ql ?_
 refine qf rfl ((QR ha).trans (by rw [hm]; rfl)) ?_
 refine zao ?_
 refine zad ?_
 refine zai ?_
 refine za rfl (zas rfl g8 (ev1 rfl)) ?_
 refine za rfl (qx rfl tb3 (ev1 rfl) rfl rfl) ?_
 refine zaa 1 rfl ?_
 refine zab ?_
 refine zav ?_
 refine qE ⟨hs0, rfl⟩ (α := Nat) (fun k => [(36, .val (.int .i64 (k : Int)))]) [(3, _), (4, _), (5, _), (35, _)] (fun k => [(1, .flat 84 (tc (kt (acc ++ qbs k c)))), (2, .flat 3 [.int .i64 ((acc.length + k : Nat) : Int)])]) [_, .hole, .hole, _] (fun k => k ≤ n.toNat) (fun k => n.toNat - k) 0 [0, 1, 2, 3] (qbO _) rfl ⟨rfl, rfl, rfl, rfl, trivial⟩ ⟨rfl, trivial⟩ ⟨rfl, by rw [List.replicate_zero, qbV]; rfl, rfl, rfl, trivial⟩ ?_
 intro k hx
 simp only [upd, zaf, zag, qbp, qbq]
 have hk0 := hx
 refine zai ?_
 refine za rfl (qq rfl (ev1 rfl) (ev1 rfl)) ?_
 refine zab ?_
 refine zad ?_
 refine qi rfl (fun c2 => ?_) (fun c2 => ?_)
 ·try simp only [decide_eq_true_eq, decide_eq_false_iff_not, beq_iff_eq, bne_iff_ne, beq_eq_false_iff_ne, bne_eq_false_iff_eq, qbl, qbm, qbi, qbo, qbk, ne_eq, Decidable.not_not, qbz, qbA] at c2
  refine zao ?_
  refine zad ?_
  refine zav ?_
  refine zai ?_
  refine za rfl (qx rfl tb3 (ev1 rfl) rfl rfl) ?_
  refine za rfl (zas rfl yB (ev1 rfl)) ?_
  refine za rfl (wJ rfl yG (ev1 rfl) rfl rfl rfl) ?_
  refine za rfl (gr (j := acc.length + k) rfl vE (ev1 rfl) (ev1 rfl) (fun _ => by omega) (fun _ => by omega)) ?_
  refine zaq rfl (wb rfl yG (ev1 rfl) (ev1 rfl) rfl rfl rfl (fun _ => rfl) (fun _ => by rw [TL.h]; omega)) ?_
  refine zab ?_
  refine zac ?_
  refine za rfl (qx rfl tb3 (ev1 rfl) rfl rfl) ?_
  refine za rfl (qc rfl (ev1 rfl) (ev1 rfl) (fun _ => qbg _ (by omega))) ?_
  refine zaq rfl (qN rfl tb3 (ev1 rfl) (ev1 rfl) rfl) ?_
  refine zab ?_
  refine zac ?_
  refine za rfl (qc rfl (ev1 rfl) (ev1 rfl) (fun _ => qbg _ (by omega))) ?_
  refine zaa 1 rfl ?_
  refine zab ?_
  refine ⟨k + 1, [0, 1, 2, 3], by omega, by simp only []; omega, rfl, ⟨rfl, rfl, rfl, rfl, rfl, trivial⟩, ⟨rfl, by rw [KF, wU (by omega)]; rfl, rfl, rfl, trivial⟩⟩
 ·try simp only [decide_eq_true_eq, decide_eq_false_iff_not, beq_iff_eq, bne_iff_ne, beq_eq_false_iff_ne, bne_eq_false_iff_eq, qbl, qbm, qbi, qbo, qbk, ne_eq, Decidable.not_not, qbz, qbA] at c2
  refine qz ?_
  refine zai ?_
  refine za rfl (qx rfl tb3 (ev1 rfl) rfl rfl) ?_
  refine za rfl (qj rfl (ev1 rfl) (ev1 rfl)) ?_
  refine zab ?_
  refine qt rfl (by simp; omega) ?_
  refine qz ?_
  obtain rfl : k = n.toNat := by omega
  refine ⟨by first | rfl | assumption | simp_all, rfl, [0, 1, 2], rfl, ⟨rfl, rfl, rfl, trivial⟩⟩
theorem tr_p (acc : List C4) (n : Int) (c : C4) (ha : acc.length < 64) (hm : ya acc n c = false) : DRoundP Tryz.prog 0 [.val (.agg (runI (n, c)).toArray)] [.lp (some 133) 48 [(3, .loc 1 0), (4, .loc 2 0)] #[8] YS YT .ready none, .flat 84 (tc (kt acc)), .flat 3 [.int .i64 (acc.length : Int)]] (.ifc 181 (.val (.agg #[]))) [.gone, .gone, .gone] := by
 refine QM 3 Tryz.func133 rfl rfl (by simp) rfl rfl fun s0 hs0 => ?_
 refine zam 1 ?_
 refine zac ?_
 refine zal rfl (zan 3 rfl uB rfl) ?_
 refine zaq rfl (qr rfl JN (ev1 rfl) (ev1 rfl) rfl rfl rfl rfl) ?_
 refine zab ?_
 refine ⟨rfl, ?_⟩
 simp only [zaf, zag]
 refine zav ?_
 refine zad ?_
 refine zad ?_
 refine qh [([], []), ([3], []), ([], []), ([], []), ([], []), ([3], []), ([2], []), ([], []), ([], []), ([], []), ([], []), ([2], []), ([], []), ([], []), ([2], []), ([], []), ([], []), ([1], []), ([], []), ([3], []), ([], []), ([], []), ([], [])] qJ (by kernel_rfl) ?_
 refine zae rfl rfl (zas rfl g8 (ev1 rfl)) ?_
 refine zae rfl rfl (qx rfl tb3 (ev1 rfl) rfl rfl) ?_
 refine zae rfl rfl (qq rfl (ev1 rfl) (ev1 rfl)) ?_
 refine zae rfl rfl (zaj (.inl rfl) (ev1 rfl)) ?_
 refine zar (qa rfl rfl rfl) rfl rfl (zas rfl g8 (ev1 rfl)) ?_
 refine zar (qa rfl rfl rfl) rfl rfl (qx rfl tb3 (ev2 rfl) rfl rfl) ?_
 refine zar (qa rfl rfl rfl) rfl rfl (qx rfl tb3 (ev1 rfl) rfl rfl) ?_
 refine zar (qa rfl rfl rfl) rfl rfl (je rfl (ev1 rfl) (ev2 rfl) (fun hp => qbg _ (by first | omega | (simp at hp; omega)))) ?_
 refine zar (qa rfl rfl rfl) rfl rfl (kg rfl (ev2 rfl) (ev2 rfl)) ?_
 refine zae rfl rfl (qK rfl (ev1 rfl) (ev3 rfl id)) ?_
 refine zae rfl rfl (zaj (.inl rfl) (ev1 rfl)) ?_
 refine zar (qa rfl rfl rfl) rfl rfl (qx rfl tb3 (ev1 rfl) rfl rfl) ?_
 refine zar (qa rfl rfl rfl) rfl rfl (kg rfl (ev2 rfl) (ev1 rfl)) ?_
 refine zar (qa rfl rfl rfl) rfl rfl (zaj (.inl rfl) (ev2 rfl)) ?_
 refine zar (jj rfl rfl rfl) rfl rfl (qx rfl tb3 (ev1 rfl) rfl rfl) ?_
 refine zar (jj rfl rfl rfl) rfl rfl (je rfl (ev2 rfl) (ev1 rfl) (fun hp => qbg _ (by first | omega | (simp at hp; omega)))) ?_
 refine zar (jj rfl rfl rfl) rfl rfl (gr (j := acc.length - 1) rfl vE (ev1 rfl) (ev2 rfl) (fun hp => by first | omega | (simp at hp; omega)) (fun hp => by first | omega | (simp at hp; omega))) ?_
 refine zar (jj rfl rfl rfl) rfl rfl (uk (zC4) rfl yG (ev2 rfl) rfl (fun _ => rfl) (fun _ => by rw [TL.h]; omega)) ?_
 refine zar (jj rfl rfl rfl) rfl rfl (zas rfl yB (ev1 rfl)) ?_
 refine zar (jj rfl rfl rfl) rfl rfl (wJ rfl yG (ev2 rfl) rfl rfl rfl) ?_
 refine zar (jj rfl rfl rfl) rfl rfl (jY UW rfl U3 yG (ev2 rfl) (ev2 rfl)) ?_
 refine zar (qa rfl rfl rfl) rfl rfl (qF rfl (ev2 rfl) (ev2 rfl)) ?_
 refine zae rfl rfl (qK rfl (ev1 rfl) (ev3 rfl id)) ?_
 refine ql ?_
 refine qt rfl ((QR ha).trans (by rw [hm]; rfl)) ?_
 refine zac ?_
 refine za rfl (kH rfl YE KL) ?_
 refine za rfl (zr rfl KJ (ev1 rfl)) ?_
 refine kz rfl (wM rfl (ev1 rfl)) rfl ?_
 refine ⟨[0, 1, 2], [_, _, _], rfl, rfl, ⟨rfl, rfl, rfl, trivial⟩, rfl⟩
end Go.Proofs.YtofklkbfkoliiaaGreat
namespace Go.Proofs.YtofklkbfkoliiaaGreat
set_option linter.unusedVariables false
set_option linter.unusedSimpArgs false
open Go.RowKit
attribute [local irreducible] kt rdP rdN ya
theorem WJ (B : List Int) (hB : B.length ≤ 4000000000000000000) (w h : Int) (us : List TL) (hu : us.length ≤ 5000) (hi : isB B) (p0 : Nat) (hp : p0 ≤ B.length) (l : List C4) (q : Nat) (h0 : rdN B p0 = some (l, q)) : DFun Tryz.prog 141 [.yld 0, .loc 3 0] [.lp (some 133) 48 [(3, .loc 1 0), (4, .loc 2 0)] #[8] YS YT .ready none, .flat 84 (tc zT), .flat 3 [.int .i64 0], .mix 183 [.loc 4 0], .mix 158 [.val (.int .i64 w), .val (.int .i64 h), .arr 5, .slf 1 (B).length ((B).flatMap uc8), .val (.int .i64 (p0 : Int))], .arr 84 256 (us).length ((us).flatMap tc)] (.tup []) [.lp (some 133) 48 [(3, .loc 1 0), (4, .loc 2 0)] #[8] YS YT .done (some (.exit 0)), .flat 84 (tc (kt l)), .flat 3 [.int .i64 64], .mix 183 [.loc 4 0], .mix 158 [.val (.int .i64 w), .val (.int .i64 h), .arr 5, .slf 1 (B).length ((B).flatMap uc8), .val (.int .i64 (q : Int))], .arr 84 256 (us).length ((us).flatMap tc)] := by
 refine zap (N := 27) 6 (by kernel_rfl) Tryz.func141 rfl rfl rfl (by simp only [fr0, qbh, qbj]; exact rfl) rfl fun s0 hs0 => ?_
 refine zav ?_
 refine qE ⟨hs0, rfl⟩ (α := Nat × List C4 × Nat) (fun x => []) [(0, _), (1, _)] (fun x => [(1, .flat 84 (tc (kt x.2.1))), (2, .flat 3 [.int .i64 (x.2.1.length : Int)]), (4, .mix 158 [.val (.int .i64 w), .val (.int .i64 h), .arr 5, .slf 1 (B).length ((B).flatMap uc8), .val (.int .i64 (x.2.2 : Int))])]) [_, .hole, .hole, _, .hole, _] (fun x => x.2.1.length < 64 ∧ x.2.2 ≤ B.length ∧ rdP B x.1 x.2.1 x.2.2 = some (l, q)) (fun x => 64 - x.2.1.length) (64, [], p0) [0, 1, 2, 3, 4, 5] (⟨by show 0 < 64; decide, hp, by unfold rdN at h0; exact h0⟩) rfl ⟨rfl, rfl, trivial⟩ trivial ⟨rfl, by rw [wT]; rfl, rfl, rfl, rfl, rfl, trivial⟩ ?_
 intro x hx
 simp only [upd, zaf, zag, qbp, qbq]
 obtain ⟨f, acc, p⟩ := x
 obtain ⟨ha, hpl, hrd⟩ := hx
 dsimp only at ha hpl hrd ⊢
 obtain ⟨h5, hm, hz, hy⟩ := xE hrd
 have hmg := (mayG_iff.1 hm).1
 refine zav ?_
 refine zai ?_
 refine za rfl (zat rfl U6 (ev1 rfl) rfl rfl) ?_
 refine zal rfl (zak [4, 5] [] [] rfl (ev1 rfl) (ec (ev1 rfl) (ec (ev1 rfl) en)) rfl rfl (Xm B hB w h us hu p h5) rfl rfl rfl rfl rfl rfl) ?_
 refine zaa 1 rfl ?_
 refine zab ?_
 refine zad ?_
 by_cases hd : acc.length + (kp B p).1.toNat = 64
 ·refine qh [([], []), ([], []), ([], []), ([], []), ([], []), ([], []), ([], []), ([], []), ([], []), ([], []), ([], []), ([], []), ([], []), ([], []), ([], []), ([], []), ([], []), ([], []), ([], []), ([0, 1, 2], [0, 1, 2]), ([], [])] qJ (by kernel_rfl) ?_
  refine zae rfl rfl (zaj (.inl rfl) (ev1 rfl)) ?_
  refine zae rfl rfl (zaj (.inl rfl) (ev1 rfl)) ?_
  refine zae rfl rfl (qu (l := (vm B p)) (en := uc8) (j := 0) rfl qg (ev1 rfl) (ev1 rfl) (fun _ => rfl) (by decide) rfl (qbP (qbr rfl))) ?_
  refine zae rfl rfl ((qk rfl tb5 (ev1 rfl) rfl).wk (Wk.of_eq (d' := .val (.int .u8 (bAt B p))) rfl)) ?_
  refine zae rfl rfl (qU ty5 kn3 rfl (ev1 rfl) (fun _ => by have := kK hi p; exact qbg _ (by omega))) ?_
  refine zae rfl rfl (zaj (.inl rfl) (ev1 rfl)) ?_
  refine zae rfl rfl (qu (l := (vm B p)) (en := uc8) (j := 1) rfl qg (ev1 rfl) (ev1 rfl) (fun _ => rfl) (by decide) rfl (qbP (qbr rfl))) ?_
  refine zae rfl rfl (qk rfl tb5 (ev1 rfl) rfl) ?_
  refine zae rfl rfl (zaj (.inl rfl) (ev1 rfl)) ?_
  refine zae rfl rfl (qu (l := (vm B p)) (en := uc8) (j := 2) rfl qg (ev1 rfl) (ev1 rfl) (fun _ => rfl) (by decide) rfl (qbP (qbr rfl))) ?_
  refine zae rfl rfl (qk rfl tb5 (ev1 rfl) rfl) ?_
  refine zae rfl rfl (zaj (.inl rfl) (ev1 rfl)) ?_
  refine zae rfl rfl (qu (l := (vm B p)) (en := uc8) (j := 3) rfl qg (ev1 rfl) (ev1 rfl) (fun _ => rfl) (by decide) rfl (qbP (qbr rfl))) ?_
  refine zae rfl rfl (qk rfl tb5 (ev1 rfl) rfl) ?_
  refine zae rfl rfl (zaj (.inl rfl) (ev1 rfl)) ?_
  refine zae rfl rfl (qu (l := (vm B p)) (en := uc8) (j := 4) rfl qg (ev1 rfl) (ev1 rfl) (fun _ => rfl) (by decide) rfl (qbP (qbr rfl))) ?_
  refine zae rfl rfl (qk rfl tb5 (ev1 rfl) rfl) ?_
  refine zae rfl rfl (kJ (ps := [(0, .tmp 13), (1, .tmp 16), (2, .tmp 19), (3, .tmp 22)]) rfl YG GJ (vc (ev1 rfl) (vc (ev1 rfl) (vc (ev1 rfl) (vc (ev1 rfl) vn)))) rfl rfl) ?_
  refine zae rfl rfl (kJ (ps := [(0, .tmp 10), (1, .tmp 23)]) rfl YF uB (vc (ev1 rfl) (vc (ev1 rfl) vn)) rfl rfl) ?_
  refine gg rfl rfl (Yn (i := 0) [0, 1, 2] [] [] rfl (ev1 rfl) (ec (ev1 rfl) en) rfl rfl rfl (tr_z acc (bAt B p) (kp B p).2 ha hm hd) rfl rfl rfl rfl rfl) rfl (by simp only [upd, zaf, zag]; exact rfl) ?_
  refine zae rfl rfl (ku rfl (ev1 rfl)) ?_
  refine ql ?_
  refine qt rfl (rfl) ?_
  refine zau ?_
  obtain ⟨rfl, rfl⟩ := hz hd
  have hd2 : acc.length + (bAt B p).toNat = 64 := hd
  rw [hd2]
  refine km [0, 1, 2, 3, 4, 5] (qI rfl) rfl rfl ?_ ⟨rfl, rfl, rfl, rfl, rfl, rfl, trivial⟩
  rfl
 ·have hmn : (kp B p).1 = bAt B p := rfl
  refine qh [([], []), ([], []), ([], []), ([], []), ([], []), ([], []), ([], []), ([], []), ([], []), ([], []), ([], []), ([], []), ([], []), ([], []), ([], []), ([], []), ([], []), ([], []), ([], []), ([0, 1, 2], [0, 1, 2]), ([], [])] qJ (by kernel_rfl) ?_
  refine zae rfl rfl (zaj (.inl rfl) (ev1 rfl)) ?_
  refine zae rfl rfl (zaj (.inl rfl) (ev1 rfl)) ?_
  refine zae rfl rfl (qu (l := (vm B p)) (en := uc8) (j := 0) rfl qg (ev1 rfl) (ev1 rfl) (fun _ => rfl) (by decide) rfl (qbP (qbr rfl))) ?_
  refine zae rfl rfl ((qk rfl tb5 (ev1 rfl) rfl).wk (Wk.of_eq (d' := .val (.int .u8 (bAt B p))) rfl)) ?_
  refine zae rfl rfl (qU ty5 kn3 rfl (ev1 rfl) (fun _ => by have := kK hi p; exact qbg _ (by omega))) ?_
  refine zae rfl rfl (zaj (.inl rfl) (ev1 rfl)) ?_
  refine zae rfl rfl (qu (l := (vm B p)) (en := uc8) (j := 1) rfl qg (ev1 rfl) (ev1 rfl) (fun _ => rfl) (by decide) rfl (qbP (qbr rfl))) ?_
  refine zae rfl rfl (qk rfl tb5 (ev1 rfl) rfl) ?_
  refine zae rfl rfl (zaj (.inl rfl) (ev1 rfl)) ?_
  refine zae rfl rfl (qu (l := (vm B p)) (en := uc8) (j := 2) rfl qg (ev1 rfl) (ev1 rfl) (fun _ => rfl) (by decide) rfl (qbP (qbr rfl))) ?_
  refine zae rfl rfl (qk rfl tb5 (ev1 rfl) rfl) ?_
  refine zae rfl rfl (zaj (.inl rfl) (ev1 rfl)) ?_
  refine zae rfl rfl (qu (l := (vm B p)) (en := uc8) (j := 3) rfl qg (ev1 rfl) (ev1 rfl) (fun _ => rfl) (by decide) rfl (qbP (qbr rfl))) ?_
  refine zae rfl rfl (qk rfl tb5 (ev1 rfl) rfl) ?_
  refine zae rfl rfl (zaj (.inl rfl) (ev1 rfl)) ?_
  refine zae rfl rfl (qu (l := (vm B p)) (en := uc8) (j := 4) rfl qg (ev1 rfl) (ev1 rfl) (fun _ => rfl) (by decide) rfl (qbP (qbr rfl))) ?_
  refine zae rfl rfl (qk rfl tb5 (ev1 rfl) rfl) ?_
  refine zae rfl rfl (kJ (ps := [(0, .tmp 13), (1, .tmp 16), (2, .tmp 19), (3, .tmp 22)]) rfl YG GJ (vc (ev1 rfl) (vc (ev1 rfl) (vc (ev1 rfl) (vc (ev1 rfl) vn)))) rfl rfl) ?_
  refine zae rfl rfl (kJ (ps := [(0, .tmp 10), (1, .tmp 23)]) rfl YF uB (vc (ev1 rfl) (vc (ev1 rfl) vn)) rfl rfl) ?_
  refine gg rfl rfl (Yn (i := 0) [0, 1, 2] [] [] rfl (ev1 rfl) (ec (ev1 rfl) en) rfl rfl rfl (tr_y acc (bAt B p) (kp B p).2 ha hm (by omega)) rfl rfl rfl rfl rfl) rfl (by simp only [upd, zaf, zag]; exact rfl) ?_
  refine zae rfl rfl (ku rfl (ev1 rfl)) ?_
  refine ql ?_
  refine qf rfl (rfl) ?_
  refine zao ?_
  refine ⟨(f - 1, acc ++ qbs (kp B p).1.toNat (kp B p).2, p + 5), [0, 1, 2, 3, 4, 5], ⟨by simp only [qbf, qbv]; omega, h5, hy hd⟩, by simp only [qbf, qbv]; omega, rfl, ⟨rfl, rfl, trivial⟩, ⟨rfl, rfl, by rw [qbf, qbv]; rfl, rfl, rfl, rfl, trivial⟩⟩
theorem WK (B : List Int) (hB : B.length ≤ 4000000000000000000) (w h : Int) (us : List TL) (hu : us.length ≤ 5000) (hi : isB B) (p0 : Nat) (hp : p0 ≤ B.length) (h0 : rdN B p0 = none) : DPanL Tryz.prog 141 [.yld 0, .loc 3 0] [.lp (some 133) 48 [(3, .loc 1 0), (4, .loc 2 0)] #[8] YS YT .ready none, .flat 84 (tc zT), .flat 3 [.int .i64 0], .mix 183 [.loc 4 0], .mix 158 [.val (.int .i64 w), .val (.int .i64 h), .arr 5, .slf 1 (B).length ((B).flatMap uc8), .val (.int .i64 (p0 : Int))], .arr 84 256 (us).length ((us).flatMap tc)] (.ifc 181 (.val (.agg #[]))) := by
 refine zap (N := 27) 6 (by kernel_rfl) Tryz.func141 rfl rfl rfl (by simp only [fr0, qbh, qbj]; exact rfl) rfl fun s0 hs0 => ?_
 refine zav ?_
 refine qE ⟨hs0, rfl⟩ (α := Nat × List C4 × Nat) (fun x => []) [(0, _), (1, _)] (fun x => [(1, .flat 84 (tc (kt x.2.1))), (2, .flat 3 [.int .i64 (x.2.1.length : Int)]), (4, .mix 158 [.val (.int .i64 w), .val (.int .i64 h), .arr 5, .slf 1 (B).length ((B).flatMap uc8), .val (.int .i64 (x.2.2 : Int))])]) [_, .hole, .hole, _, .hole, _] (fun x => x.2.1.length < 64 ∧ x.2.2 ≤ B.length ∧ 64 ≤ x.1 + x.2.1.length ∧ rdP B x.1 x.2.1 x.2.2 = none) (fun x => 64 - x.2.1.length) (64, [], p0) [0, 1, 2, 3, 4, 5] (⟨by show 0 < 64; decide, hp, qby 64, by unfold rdN at h0; exact h0⟩) rfl ⟨rfl, rfl, trivial⟩ trivial ⟨rfl, by rw [wT]; rfl, rfl, rfl, rfl, rfl, trivial⟩ ?_
 intro x hx
 simp only [upd, zaf, zag, qbp, qbq]
 obtain ⟨f, acc, p⟩ := x
 obtain ⟨ha, hpl, hf, hrd⟩ := hx
 dsimp only at ha hpl hf hrd ⊢
 refine zav ?_
 refine zad ?_
 by_cases h5 : p + 5 ≤ B.length
 ·refine zac ?_
  refine za rfl (zat rfl U6 (ev1 rfl) rfl rfl) ?_
  refine zal rfl (zak [4, 5] [] [] rfl (ev1 rfl) (ec (ev1 rfl) (ec (ev1 rfl) en)) rfl rfl (Xm B hB w h us hu p h5) rfl rfl rfl rfl rfl rfl) ?_
  refine zaa 1 rfl ?_
  refine zab ?_
  refine zad ?_
  by_cases hm : ya acc (kp B p).1 (kp B p).2 = true
  ·have hmn : (kp B p).1 = bAt B p := rfl
   obtain ⟨hn1, hn2, hn3⟩ := Xh hf ha hrd h5 hm
   have hmg := (mayG_iff.1 hm).1
   refine qh [([], []), ([], []), ([], []), ([], []), ([], []), ([], []), ([], []), ([], []), ([], []), ([], []), ([], []), ([], []), ([], []), ([], []), ([], []), ([], []), ([], []), ([], []), ([], []), ([0, 1, 2], [0, 1, 2]), ([], [])] qJ (by kernel_rfl) ?_
   refine zae rfl rfl (zaj (.inl rfl) (ev1 rfl)) ?_
   refine zae rfl rfl (zaj (.inl rfl) (ev1 rfl)) ?_
   refine zae rfl rfl (qu (l := (vm B p)) (en := uc8) (j := 0) rfl qg (ev1 rfl) (ev1 rfl) (fun _ => rfl) (by decide) rfl (qbP (qbr rfl))) ?_
   refine zae rfl rfl ((qk rfl tb5 (ev1 rfl) rfl).wk (Wk.of_eq (d' := .val (.int .u8 (bAt B p))) rfl)) ?_
   refine zae rfl rfl (qU ty5 kn3 rfl (ev1 rfl) (fun _ => by have := kK hi p; exact qbg _ (by omega))) ?_
   refine zae rfl rfl (zaj (.inl rfl) (ev1 rfl)) ?_
   refine zae rfl rfl (qu (l := (vm B p)) (en := uc8) (j := 1) rfl qg (ev1 rfl) (ev1 rfl) (fun _ => rfl) (by decide) rfl (qbP (qbr rfl))) ?_
   refine zae rfl rfl (qk rfl tb5 (ev1 rfl) rfl) ?_
   refine zae rfl rfl (zaj (.inl rfl) (ev1 rfl)) ?_
   refine zae rfl rfl (qu (l := (vm B p)) (en := uc8) (j := 2) rfl qg (ev1 rfl) (ev1 rfl) (fun _ => rfl) (by decide) rfl (qbP (qbr rfl))) ?_
   refine zae rfl rfl (qk rfl tb5 (ev1 rfl) rfl) ?_
   refine zae rfl rfl (zaj (.inl rfl) (ev1 rfl)) ?_
   refine zae rfl rfl (qu (l := (vm B p)) (en := uc8) (j := 3) rfl qg (ev1 rfl) (ev1 rfl) (fun _ => rfl) (by decide) rfl (qbP (qbr rfl))) ?_
   refine zae rfl rfl (qk rfl tb5 (ev1 rfl) rfl) ?_
   refine zae rfl rfl (zaj (.inl rfl) (ev1 rfl)) ?_
   refine zae rfl rfl (qu (l := (vm B p)) (en := uc8) (j := 4) rfl qg (ev1 rfl) (ev1 rfl) (fun _ => rfl) (by decide) rfl (qbP (qbr rfl))) ?_
   refine zae rfl rfl (qk rfl tb5 (ev1 rfl) rfl) ?_
   refine zae rfl rfl (kJ (ps := [(0, .tmp 13), (1, .tmp 16), (2, .tmp 19), (3, .tmp 22)]) rfl YG GJ (vc (ev1 rfl) (vc (ev1 rfl) (vc (ev1 rfl) (vc (ev1 rfl) vn)))) rfl rfl) ?_
   refine zae rfl rfl (kJ (ps := [(0, .tmp 10), (1, .tmp 23)]) rfl YF uB (vc (ev1 rfl) (vc (ev1 rfl) vn)) rfl rfl) ?_
   refine gg rfl rfl (Yn (i := 0) [0, 1, 2] [] [] rfl (ev1 rfl) (ec (ev1 rfl) en) rfl rfl rfl (tr_y acc (bAt B p) (kp B p).2 ha hm (by omega)) rfl rfl rfl rfl rfl) rfl (by simp only [upd, zaf, zag]; exact rfl) ?_
   refine zae rfl rfl (ku rfl (ev1 rfl)) ?_
   refine ql ?_
   refine qf rfl (rfl) ?_
   refine zao ?_
   refine ⟨(f - 1, acc ++ qbs (kp B p).1.toNat (kp B p).2, p + 5), [0, 1, 2, 3, 4, 5], ⟨by simp only [qbf, qbv]; exact hn1, h5, by simp only [qbf, qbv]; exact hn2, hn3⟩, by simp only [qbf, qbv]; omega, rfl, ⟨rfl, rfl, trivial⟩, ⟨rfl, rfl, by rw [qbf, qbv]; rfl, rfl, rfl, rfl, trivial⟩⟩
  ·have hm : ya acc (kp B p).1 (kp B p).2 = false := by simpa using hm
   refine y0 19 [([], []), ([], []), ([], []), ([], []), ([], []), ([], []), ([], []), ([], []), ([], []), ([], []), ([], []), ([], []), ([], []), ([], []), ([], []), ([], []), ([], []), ([], []), ([], [])] qJ (by kernel_rfl) rfl rfl ?_
   refine zae rfl rfl (zaj (.inl rfl) (ev1 rfl)) ?_
   refine zae rfl rfl (zaj (.inl rfl) (ev1 rfl)) ?_
   refine zae rfl rfl (qu (l := (vm B p)) (en := uc8) (j := 0) rfl qg (ev1 rfl) (ev1 rfl) (fun _ => rfl) (by decide) rfl (qbP (qbr rfl))) ?_
   refine zae rfl rfl ((qk rfl tb5 (ev1 rfl) rfl).wk (Wk.of_eq (d' := .val (.int .u8 (bAt B p))) rfl)) ?_
   refine zae rfl rfl (qU ty5 kn3 rfl (ev1 rfl) (fun _ => by have := kK hi p; exact qbg _ (by omega))) ?_
   refine zae rfl rfl (zaj (.inl rfl) (ev1 rfl)) ?_
   refine zae rfl rfl (qu (l := (vm B p)) (en := uc8) (j := 1) rfl qg (ev1 rfl) (ev1 rfl) (fun _ => rfl) (by decide) rfl (qbP (qbr rfl))) ?_
   refine zae rfl rfl (qk rfl tb5 (ev1 rfl) rfl) ?_
   refine zae rfl rfl (zaj (.inl rfl) (ev1 rfl)) ?_
   refine zae rfl rfl (qu (l := (vm B p)) (en := uc8) (j := 2) rfl qg (ev1 rfl) (ev1 rfl) (fun _ => rfl) (by decide) rfl (qbP (qbr rfl))) ?_
   refine zae rfl rfl (qk rfl tb5 (ev1 rfl) rfl) ?_
   refine zae rfl rfl (zaj (.inl rfl) (ev1 rfl)) ?_
   refine zae rfl rfl (qu (l := (vm B p)) (en := uc8) (j := 3) rfl qg (ev1 rfl) (ev1 rfl) (fun _ => rfl) (by decide) rfl (qbP (qbr rfl))) ?_
   refine zae rfl rfl (qk rfl tb5 (ev1 rfl) rfl) ?_
   refine zae rfl rfl (zaj (.inl rfl) (ev1 rfl)) ?_
   refine zae rfl rfl (qu (l := (vm B p)) (en := uc8) (j := 4) rfl qg (ev1 rfl) (ev1 rfl) (fun _ => rfl) (by decide) rfl (qbP (qbr rfl))) ?_
   refine zae rfl rfl (qk rfl tb5 (ev1 rfl) rfl) ?_
   refine zae rfl rfl (kJ (ps := [(0, .tmp 13), (1, .tmp 16), (2, .tmp 19), (3, .tmp 22)]) rfl YG GJ (vc (ev1 rfl) (vc (ev1 rfl) (vc (ev1 rfl) (vc (ev1 rfl) vn)))) rfl rfl) ?_
   refine zae rfl rfl (kJ (ps := [(0, .tmp 10), (1, .tmp 23)]) rfl YF uB (vc (ev1 rfl) (vc (ev1 rfl) vn)) rfl rfl) ?_
   refine ql ⟨_, _, _, rfl, op_yP (i := 0) [0, 1, 2] [] [] rfl (ev1 rfl) (ec (ev1 rfl) en) rfl rfl rfl (tr_p acc (bAt B p) (kp B p).2 ha hm) rfl rfl rfl rfl rfl rfl, ?_⟩
   refine vR (Mo := [_, _, _, _, _, _]) [0, 1, 2, 3, 4, 5] rfl rfl ?_ ⟨rfl, rfl, rfl, rfl, rfl, rfl, trivial⟩ rfl
   rfl
 ·refine zac ?_
  refine za rfl (zat rfl U6 (ev1 rfl) rfl rfl) ?_
  refine kz rfl (qQ [4, 5] [] [] rfl (ev1 rfl) (ec (ev1 rfl) (ec (ev1 rfl) en)) rfl rfl ((WH B hB w h us hu p hpl h5).dead) rfl rfl rfl rfl rfl rfl) rfl ?_
  refine vR (Mo := [_, _, _, _, _, _]) [0, 1, 2, 3, 4, 5] rfl rfl ?_ ⟨rfl, rfl, rfl, rfl, rfl, rfl, trivial⟩ rfl
  rfl
theorem VL (B : List Int) (hB : B.length ≤ 4000000000000000000) (w h : Int) (us : List TL) (hu : us.length ≤ 5000) (hi : isB B) (p0 : Nat) (hp : p0 ≤ B.length) (l : List C4) (q : Nat) (h0 : rdN B p0 = some (l, q)) : DFun Tryz.prog 133 [.loc 0 0] [.mix 158 [.val (.int .i64 w), .val (.int .i64 h), .arr 1, .slf 1 (B).length ((B).flatMap uc8), .val (.int .i64 (p0 : Int))], .arr 84 256 (us).length ((us).flatMap tc)] (.val (.agg (tc (kt l)).toArray)) [.mix 158 [.val (.int .i64 w), .val (.int .i64 h), .arr 1, .slf 1 (B).length ((B).flatMap uc8), .val (.int .i64 (q : Int))], .arr 84 256 (us).length ((us).flatMap tc)] := by
 refine KE (N := 48) 2 (by kernel_rfl) Tryz.func133 rfl rfl rfl (by simp only [fr0, qbh, qbj]; exact rfl) rfl fun s0 hs0 => ?_
 refine j5 ?_
 refine gZ ?_
 refine zam 1 ?_
 refine zac ?_
 refine zal rfl (zan 2 rfl kN rfl) ?_
 refine zab ?_
 refine KD ?_
 refine j5 ?_
 refine gZ ?_
 refine zam 1 ?_
 refine zac ?_
 refine zal rfl (zan 3 rfl kN rfl) ?_
 refine zab ?_
 refine j5 ?_
 refine gZ ?_
 refine zam 1 ?_
 refine zac ?_
 refine zal rfl (zan 4 rfl zr3 rfl) ?_
 refine zaq rfl (qN rfl tb3 (ev1 rfl) (ev1 rfl) rfl) ?_
 refine zab ?_
 refine j5 ?_
 refine gZ ?_
 refine xQ ?_
 refine j5 ?_
 refine j5 ?_
 refine gZ ?_
 refine zam 1 ?_
 refine zac ?_
 refine zaa 1 rfl ?_
 refine zal rfl (zak [0, 1] [] [5] rfl (ev1 rfl) (ec (ev1 rfl) en) rfl rfl (VK B hB w h us hu p0) rfl rfl rfl rfl rfl rfl) ?_
 refine zab ?_
 refine KC ?_
 refine JI ?_
 simp only [qbp, qbq]
 refine UO (FL := [(3, _), (4, _)]) (st := .done) (pe := (some (.exit 0))) [6, 3, 4, 5, 0, 1] [] [] 6 rfl rfl (ev1 rfl) rfl (ui ⟨rfl, rfl, trivial⟩) rfl rfl rfl (WJ B hB w h us hu hi p0 hp l q h0) rfl rfl rfl rfl rfl rfl rfl (by simp) (fun e => ?_) (fun c e => ?_)
 ·cases e
 ·cases e
  simp only [upd, zaf, zag]
  refine qz ?_
  refine gZ ?_
  refine zai ?_
  refine za rfl (qL rfl qS (ev1 rfl) rfl (qb _)) ?_
  refine zaq rfl (qr rfl qS (ev1 rfl) (ev1 rfl) rfl (qb _) (k7 _) ((qb _).trans (qb _).symm)) ?_
  refine zab ?_
  refine zau ?_
  refine km [0, 1] (rs1 rfl (gy qS rfl rfl (qb _))) rfl rfl ?_ ⟨rfl, rfl, trivial⟩
  rfl
theorem Z9 (B : List Int) (hB : B.length ≤ 4000000000000000000) (w h : Int) (us : List TL) (hu : us.length ≤ 5000) (hi : isB B) (p0 : Nat) (hp : p0 ≤ B.length) (h0 : rdN B p0 = none) : DPanL Tryz.prog 133 [.loc 0 0] [.mix 158 [.val (.int .i64 w), .val (.int .i64 h), .arr 1, .slf 1 (B).length ((B).flatMap uc8), .val (.int .i64 (p0 : Int))], .arr 84 256 (us).length ((us).flatMap tc)] (.ifc 181 (.val (.agg #[]))) := by
 refine KE (N := 48) 2 (by kernel_rfl) Tryz.func133 rfl rfl rfl (by simp only [fr0, qbh, qbj]; exact rfl) rfl fun s0 hs0 => ?_
 refine j5 ?_
 refine gZ ?_
 refine zam 1 ?_
 refine zac ?_
 refine zal rfl (zan 2 rfl kN rfl) ?_
 refine zab ?_
 refine KD ?_
 refine j5 ?_
 refine gZ ?_
 refine zam 1 ?_
 refine zac ?_
 refine zal rfl (zan 3 rfl kN rfl) ?_
 refine zab ?_
 refine j5 ?_
 refine gZ ?_
 refine zam 1 ?_
 refine zac ?_
 refine zal rfl (zan 4 rfl zr3 rfl) ?_
 refine zaq rfl (qN rfl tb3 (ev1 rfl) (ev1 rfl) rfl) ?_
 refine zab ?_
 refine j5 ?_
 refine gZ ?_
 refine xQ ?_
 refine j5 ?_
 refine j5 ?_
 refine gZ ?_
 refine zam 1 ?_
 refine zac ?_
 refine zaa 1 rfl ?_
 refine zal rfl (zak [0, 1] [] [5] rfl (ev1 rfl) (ec (ev1 rfl) en) rfl rfl (VK B hB w h us hu p0) rfl rfl rfl rfl rfl rfl) ?_
 refine zab ?_
 refine KC ?_
 refine JI ?_
 simp only [qbp, qbq]
 refine UP (FL := [(3, _), (4, _)]) [6, 3, 4, 5, 0, 1] [] [] 6 rfl rfl (ev1 rfl) rfl (ui ⟨rfl, rfl, trivial⟩) rfl rfl rfl ((WK B hB w h us hu hi p0 hp h0).dead) rfl rfl rfl rfl rfl rfl rfl ?_
 simp only [upd, zaf, zag]
 refine vR (Mo := [_, _]) [0, 1] rfl rfl ?_ ⟨rfl, rfl, trivial⟩ rfl
 rfl
end Go.Proofs.YtofklkbfkoliiaaGreat
namespace Go.Proofs.YtofklkbfkoliiaaGreat
set_option linter.unusedVariables false
set_option linter.unusedSimpArgs false
open Go.RowKit
attribute [local irreducible] kt rdP rdN ya
theorem qao {I : Nat → Prop} {w h : Int} {ts : List TL} {d : D} (hf : Okd (NewCv I w h ts) d) : Wk d (.tup [cvD w h (dpR ts), .val (.int .i64 0)]) := by
 obtain ⟨_, ⟨A, hA, _, rfl⟩, rfl⟩ := hf
 exact Wk.tup (.cons ((KN hA).wkd w h) (.cons (.refl _) .nil))
theorem qap (w h : Int) (n : Nat) (hm : jV w h = true) (hn : w * h = (n : Int)) : DFun Tryz.prog 121 [.val (.int .i64 w), .val (.int .i64 h)] [] (.tup [cvD w h (dpR (qbs n (nT zC4))), .val (.int .i64 0)]) [] := (qam w h n hm hn).fun fun I d hf => qao hf
theorem YU (B : List Int) (hB : B.length ≤ 4000000000000000000) (hi : isB B) (n : Nat) (h2 : 0 + 2 ≤ B.length) (hm : jV (bAt B 0) (bAt B 1) = true) (hn : bAt B 0 * bAt B 1 = (n : Int)) : DFun Tryz.prog 98 [.loc 0 0] [.mix 158 [.val (.int .i64 0), .val (.int .i64 0), .val (.slice none 0 0), .slf 1 (B).length ((B).flatMap uc8), .val (.int .i64 (0 : Int))]] (.tup []) [.mix 158 [.val (.int .i64 (bAt B 0)), .val (.int .i64 (bAt B 1)), .val (.slice none 0 0), .slf 1 (B).length ((B).flatMap uc8), .val (.int .i64 (2 : Int))]] := by
 refine zap (N := 41) 1 (by kernel_rfl) Tryz.func98 rfl rfl rfl (by simp only [fr0, qbh, qbj]; exact rfl) rfl fun s0 hs0 => ?_
 refine zai ?_
 refine zaa 1 rfl ?_
 refine zal rfl (zak [0] [] [] rfl (ev1 rfl) (ec (ev1 rfl) (ec (ev1 rfl) en)) rfl rfl (Al B hB 0 h2) rfl rfl rfl rfl rfl rfl) ?_
 refine zaa 1 rfl ?_
 refine zab ?_
 refine zad ?_
 refine qh [([], []), ([], []), ([], []), ([], []), ([], []), ([], []), ([], []), ([], []), ([], []), ([], []), ([], []), ([], []), ([], []), ([0], [0]), ([], []), ([], []), ([], []), ([0], [0])] qJ (by kernel_rfl) ?_
 refine zae rfl rfl (zaj (.inl rfl) (ev1 rfl)) ?_
 refine zae rfl rfl (zaj (.inl rfl) (ev1 rfl)) ?_
 refine zae rfl rfl (zaj (.inl rfl) (ev1 rfl)) ?_
 refine zae rfl rfl (qu (l := (WE B 0)) (en := uc8) (j := 0) rfl qg (ev1 rfl) (ev1 rfl) (fun _ => rfl) (by decide) rfl (qbP (qbr rfl))) ?_
 refine zae rfl rfl ((qk rfl tb5 (ev1 rfl) rfl).wk (Wk.of_eq (d' := .val (.int .u8 (bAt B 0))) rfl)) ?_
 refine zae rfl rfl (qU ty5 kn3 rfl (ev1 rfl) (fun _ => by have := kK hi 0; exact qbg _ (by omega))) ?_
 refine zae rfl rfl (zaj (.inl rfl) (ev1 rfl)) ?_
 refine zae rfl rfl (qu (l := (WE B 0)) (en := uc8) (j := 1) rfl qg (ev1 rfl) (ev1 rfl) (fun _ => rfl) (by decide) rfl (qbP (qbr rfl))) ?_
 refine zae rfl rfl ((qk rfl tb5 (ev1 rfl) rfl).wk (Wk.of_eq (d' := .val (.int .u8 (bAt B 1))) rfl)) ?_
 refine zae rfl rfl (qU ty5 kn3 rfl (ev1 rfl) (fun _ => by have := kK hi 1; exact qbg _ (by omega))) ?_
 refine zae rfl rfl (qC rfl (ev1 rfl) (fun s v h => by cases h; exact ⟨_, rfl⟩)) ?_
 refine zae rfl rfl (zas rfl jn (ev1 rfl)) ?_
 refine zae rfl rfl (zas rfl gJ (ev1 rfl)) ?_
 refine jq rfl rfl (kQ rfl tb3 (ev1 rfl) (ev1 rfl) (fun s v h => by cases h <;> exact ⟨rfl, rfl⟩) rfl (by first | decide | exact qbr rfl | simp)) rfl (by simp only [upd, zaf, zag]; exact rfl) ?_
 refine zae rfl rfl (qC rfl (ev1 rfl) (fun s v h => by cases h; exact ⟨_, rfl⟩)) ?_
 refine zae rfl rfl (zas rfl jn (ev1 rfl)) ?_
 refine zae rfl rfl (zas rfl gK (ev1 rfl)) ?_
 refine jq rfl rfl (kQ rfl tb3 (ev1 rfl) (ev1 rfl) (fun s v h => by cases h <;> exact ⟨rfl, rfl⟩) rfl (by first | decide | exact qbr rfl | simp)) rfl (by simp only [upd, zaf, zag]; exact rfl) ?_
 refine ql ?_
 refine zad ?_
 refine qh [([], []), ([], []), ([], []), ([], []), ([0], []), ([], []), ([], []), ([], []), ([], []), ([0], []), ([], []), ([], []), ([], []), ([], []), ([], []), ([], [])] qJ (by kernel_rfl) ?_
 refine zae rfl rfl (zaj (.inl rfl) (ev1 rfl)) ?_
 refine zae rfl rfl (qC rfl (ev1 rfl) (fun s v h => by cases h; exact ⟨_, rfl⟩)) ?_
 refine zae rfl rfl (zas rfl jn (ev1 rfl)) ?_
 refine zae rfl rfl (zas rfl gJ (ev1 rfl)) ?_
 refine zae rfl rfl (zat rfl tb3 (ev1 rfl) rfl rfl) ?_
 refine zae rfl rfl (zaj (.inl rfl) (ev1 rfl)) ?_
 refine zae rfl rfl (qC rfl (ev1 rfl) (fun s v h => by cases h; exact ⟨_, rfl⟩)) ?_
 refine zae rfl rfl (zas rfl jn (ev1 rfl)) ?_
 refine zae rfl rfl (zas rfl gK (ev1 rfl)) ?_
 refine zae rfl rfl (zat rfl tb3 (ev1 rfl) rfl rfl) ?_
 refine zae rfl rfl (zak [] [] [] rfl (ev1 rfl) (ec (ev1 rfl) (ec (ev1 rfl) en)) rfl rfl (qap (bAt B 0) (bAt B 1) n hm hn) rfl rfl rfl rfl rfl rfl) ?_
 refine zae rfl rfl (zaj (.inl rfl) (ev1 rfl)) ?_
 refine zae rfl rfl (jy rfl (ev1 rfl) rfl) ?_
 refine zae rfl rfl (jy rfl (ev1 rfl) rfl) ?_
 refine zae rfl rfl (zaj (.inr rfl) (ev1 rfl)) ?_
 refine zae rfl rfl (zaj (.inr rfl) (ev1 rfl)) ?_
 refine ql ?_
 refine zai ?_
 refine zaa 1 rfl ?_
 refine za rfl (qV rfl (ev1 rfl) (ev1 rfl)) ?_
 refine zab ?_
 refine qf rfl (rfl) ?_
 refine zao ?_
 refine km [0] (qI rfl) rfl rfl ?_ ⟨rfl, trivial⟩
 rfl
theorem Xo (B : List Int) (hB : B.length ≤ 4000000000000000000) (hi : isB B) (h2 : ¬ 0 + 2 ≤ B.length) : DPanL Tryz.prog 98 [.loc 0 0] [.mix 158 [.val (.int .i64 0), .val (.int .i64 0), .val (.slice none 0 0), .slf 1 (B).length ((B).flatMap uc8), .val (.int .i64 (0 : Int))]] (.ifc 181 (.val (.agg #[]))) := by
 refine zap (N := 41) 1 (by kernel_rfl) Tryz.func98 rfl rfl rfl (by simp only [fr0, qbh, qbj]; exact rfl) rfl fun s0 hs0 => ?_
 refine zai ?_
 refine zaa 1 rfl ?_
 refine kz rfl (qQ [0] [] [] rfl (ev1 rfl) (ec (ev1 rfl) (ec (ev1 rfl) en)) rfl rfl ((Xl B hB 0 (qbO _) h2).dead) rfl rfl rfl rfl rfl rfl) rfl ?_
 refine vR (Mo := [_]) [0] rfl rfl ?_ ⟨rfl, trivial⟩ rfl
 rfl
theorem Xp (B : List Int) (hB : B.length ≤ 4000000000000000000) (hi : isB B) (h2 : 0 + 2 ≤ B.length) (hm : jV (bAt B 0) (bAt B 1) = false) : DPanL Tryz.prog 98 [.loc 0 0] [.mix 158 [.val (.int .i64 0), .val (.int .i64 0), .val (.slice none 0 0), .slf 1 (B).length ((B).flatMap uc8), .val (.int .i64 (0 : Int))]] (.ifc 181 (.val (.agg #[]))) := by
 refine zap (N := 41) 1 (by kernel_rfl) Tryz.func98 rfl rfl rfl (by simp only [fr0, qbh, qbj]; exact rfl) rfl fun s0 hs0 => ?_
 refine zai ?_
 refine zaa 1 rfl ?_
 refine zal rfl (zak [0] [] [] rfl (ev1 rfl) (ec (ev1 rfl) (ec (ev1 rfl) en)) rfl rfl (Al B hB 0 h2) rfl rfl rfl rfl rfl rfl) ?_
 refine zaa 1 rfl ?_
 refine zab ?_
 refine zad ?_
 refine qh [([], []), ([], []), ([], []), ([], []), ([], []), ([], []), ([], []), ([], []), ([], []), ([], []), ([], []), ([], []), ([], []), ([0], [0]), ([], []), ([], []), ([], []), ([0], [0])] qJ (by kernel_rfl) ?_
 refine zae rfl rfl (zaj (.inl rfl) (ev1 rfl)) ?_
 refine zae rfl rfl (zaj (.inl rfl) (ev1 rfl)) ?_
 refine zae rfl rfl (zaj (.inl rfl) (ev1 rfl)) ?_
 refine zae rfl rfl (qu (l := (WE B 0)) (en := uc8) (j := 0) rfl qg (ev1 rfl) (ev1 rfl) (fun _ => rfl) (by decide) rfl (qbP (qbr rfl))) ?_
 refine zae rfl rfl ((qk rfl tb5 (ev1 rfl) rfl).wk (Wk.of_eq (d' := .val (.int .u8 (bAt B 0))) rfl)) ?_
 refine zae rfl rfl (qU ty5 kn3 rfl (ev1 rfl) (fun _ => by have := kK hi 0; exact qbg _ (by omega))) ?_
 refine zae rfl rfl (zaj (.inl rfl) (ev1 rfl)) ?_
 refine zae rfl rfl (qu (l := (WE B 0)) (en := uc8) (j := 1) rfl qg (ev1 rfl) (ev1 rfl) (fun _ => rfl) (by decide) rfl (qbP (qbr rfl))) ?_
 refine zae rfl rfl ((qk rfl tb5 (ev1 rfl) rfl).wk (Wk.of_eq (d' := .val (.int .u8 (bAt B 1))) rfl)) ?_
 refine zae rfl rfl (qU ty5 kn3 rfl (ev1 rfl) (fun _ => by have := kK hi 1; exact qbg _ (by omega))) ?_
 refine zae rfl rfl (qC rfl (ev1 rfl) (fun s v h => by cases h; exact ⟨_, rfl⟩)) ?_
 refine zae rfl rfl (zas rfl jn (ev1 rfl)) ?_
 refine zae rfl rfl (zas rfl gJ (ev1 rfl)) ?_
 refine jq rfl rfl (kQ rfl tb3 (ev1 rfl) (ev1 rfl) (fun s v h => by cases h <;> exact ⟨rfl, rfl⟩) rfl (by first | decide | exact qbr rfl | simp)) rfl (by simp only [upd, zaf, zag]; exact rfl) ?_
 refine zae rfl rfl (qC rfl (ev1 rfl) (fun s v h => by cases h; exact ⟨_, rfl⟩)) ?_
 refine zae rfl rfl (zas rfl jn (ev1 rfl)) ?_
 refine zae rfl rfl (zas rfl gK (ev1 rfl)) ?_
 refine jq rfl rfl (kQ rfl tb3 (ev1 rfl) (ev1 rfl) (fun s v h => by cases h <;> exact ⟨rfl, rfl⟩) rfl (by first | decide | exact qbr rfl | simp)) rfl (by simp only [upd, zaf, zag]; exact rfl) ?_
 refine ql ?_
 refine zad ?_
 refine qh [([], []), ([], []), ([], []), ([], []), ([0], []), ([], []), ([], []), ([], []), ([], []), ([0], []), ([], []), ([], []), ([], []), ([], []), ([], []), ([], [])] qJ (by kernel_rfl) ?_
 refine zae rfl rfl (zaj (.inl rfl) (ev1 rfl)) ?_
 refine zae rfl rfl (qC rfl (ev1 rfl) (fun s v h => by cases h; exact ⟨_, rfl⟩)) ?_
 refine zae rfl rfl (zas rfl jn (ev1 rfl)) ?_
 refine zae rfl rfl (zas rfl gJ (ev1 rfl)) ?_
 refine zae rfl rfl (zat rfl tb3 (ev1 rfl) rfl rfl) ?_
 refine zae rfl rfl (zaj (.inl rfl) (ev1 rfl)) ?_
 refine zae rfl rfl (qC rfl (ev1 rfl) (fun s v h => by cases h; exact ⟨_, rfl⟩)) ?_
 refine zae rfl rfl (zas rfl jn (ev1 rfl)) ?_
 refine zae rfl rfl (zas rfl gK (ev1 rfl)) ?_
 refine zae rfl rfl (zat rfl tb3 (ev1 rfl) rfl rfl) ?_
 refine zae rfl rfl (zak [] [] [] rfl (ev1 rfl) (ec (ev1 rfl) (ec (ev1 rfl) en)) rfl rfl (qal (bAt B 0) (bAt B 1) hm) rfl rfl rfl rfl rfl rfl) ?_
 refine zae rfl rfl (zaj (.inl rfl) (ev1 rfl)) ?_
 refine zae rfl rfl (jy rfl (ev1 rfl) rfl) ?_
 refine zae rfl rfl (jy rfl (ev1 rfl) rfl) ?_
 refine zae rfl rfl (zaj (.inr rfl) (ev1 rfl)) ?_
 refine zae rfl rfl (zaj (.inr rfl) (ev1 rfl)) ?_
 refine ql ?_
 refine zai ?_
 refine zaa 1 rfl ?_
 refine za rfl (qV rfl (ev1 rfl) (ev1 rfl)) ?_
 refine zab ?_
 refine qt rfl (rfl) ?_
 refine zac ?_
 refine za rfl (kH rfl YE KL) ?_
 refine za rfl (zr rfl KJ (ev1 rfl)) ?_
 refine kz rfl (wM rfl (ev1 rfl)) rfl ?_
 refine vR (Mo := [_]) [0] rfl rfl ?_ ⟨rfl, trivial⟩ rfl
 rfl
theorem vG (us : List TL) (t : TL) : us.flatMap tc ++ ([Value.agg (tc t).toArray].flatMap fun v => v.cells.toList) = (us ++ [t]).flatMap tc := by
 rw [Ak, List.flatMap_append]
 congr 1
 exact (qbV _).symm
theorem Xq (B : List Int) (hB : B.length ≤ 4000000000000000000) (w h : Int) (us : List TL) (hu : us.length ≤ 5000) (hi : isB B) (t : TL) (p : Nat) (hp : p ≤ B.length) (hz : (p < B.length ∧ bAt B p = 0)) : DFun Tryz.prog 122 [.loc 0 0, tD t] [.mix 158 [.val (.int .i64 w), .val (.int .i64 h), .arr 1, .slf 1 (B).length ((B).flatMap uc8), .val (.int .i64 (p : Int))], .arr 84 256 (us).length ((us).flatMap tc)] (.tup []) [.mix 158 [.val (.int .i64 w), .val (.int .i64 h), .arr 2, .slf 1 (B).length ((B).flatMap uc8), .val (.int .i64 ((p + 1 : Nat) : Int))], .gone, .arr 84 256 ((us ++ [t])).length (((us ++ [t])).flatMap tc)] := by
 refine zap (N := 55) 2 (by kernel_rfl) Tryz.func122 rfl rfl rfl (by simp only [fr0, qbh, qbj]; exact rfl) rfl fun s0 hs0 => ?_
 refine zad ?_
 refine zam 1 ?_
 refine zac ?_
 refine zal rfl (j8 2 rfl (ev1 rfl) rfl) ?_
 refine zab ?_
 refine zad ?_
 refine zam 1 ?_
 refine zac ?_
 refine za rfl (qL rfl qS (ev1 rfl) rfl (qb _)) ?_
 refine zal rfl (zan 3 rfl kN rfl) ?_
 refine zaq rfl (qr rfl qS (ev1 rfl) (ev1 rfl) rfl (qb _) (k7 _) ((qb _).trans (qb _).symm)) ?_
 refine zab ?_
 refine zad ?_
 refine zad ?_
 refine qh [([], []), ([], []), ([], []), ([0], []), ([], []), ([], []), ([], []), ([0], []), ([], []), ([], []), ([], []), ([], []), ([], []), ([], []), ([0], []), ([], []), ([], []), ([], []), ([0], []), ([], []), ([], []), ([], []), ([], [])] qJ (by kernel_rfl) ?_
 refine zae rfl rfl (zaj (.inl rfl) (ev1 rfl)) ?_
 refine zae rfl rfl (qC rfl (ev1 rfl) (fun s v h => by cases h; exact ⟨_, rfl⟩)) ?_
 refine zae rfl rfl (zas rfl ja (ev1 rfl)) ?_
 refine zae rfl rfl (zat rfl tb3 (ev1 rfl) rfl rfl) ?_
 refine zae rfl rfl (zaj (.inl rfl) (ev1 rfl)) ?_
 refine zae rfl rfl (qC rfl (ev1 rfl) (fun s v h => by cases h; exact ⟨_, rfl⟩)) ?_
 refine zae rfl rfl (zas rfl gd (ev1 rfl)) ?_
 refine zae rfl rfl (zat rfl jg (ev1 rfl) rfl rfl) ?_
 refine zae rfl rfl (qm rfl qg (ev1 rfl)) ?_
 refine zae rfl rfl (qq rfl (ev1 rfl) (ev1 rfl)) ?_
 refine zae rfl rfl (zaj (.inl rfl) (ev1 rfl)) ?_
 refine zar (qd rfl rfl rfl) rfl rfl (zaj (.inl rfl) (ev1 rfl)) ?_
 refine zar (qd rfl rfl rfl) rfl rfl (qC rfl (ev2 rfl) (fun s v h => by cases h; exact ⟨_, rfl⟩)) ?_
 refine zar (qd rfl rfl rfl) rfl rfl (zas rfl gd (ev2 rfl)) ?_
 refine zar (qd rfl rfl rfl) rfl rfl (zat rfl jg (ev2 rfl) rfl rfl) ?_
 refine zar (qd rfl rfl rfl) rfl rfl (zaj (.inl rfl) (ev1 rfl)) ?_
 refine zar (qd rfl rfl rfl) rfl rfl (qC rfl (ev2 rfl) (fun s v h => by cases h; exact ⟨_, rfl⟩)) ?_
 refine zar (qd rfl rfl rfl) rfl rfl (zas rfl ja (ev2 rfl)) ?_
 refine zar (qd rfl rfl rfl) rfl rfl (zat rfl tb3 (ev2 rfl) rfl rfl) ?_
 refine zar (qd rfl rfl rfl) rfl rfl (kv (j := p) ((0 : Int)) rfl qg (ev2 rfl) (ev2 rfl) (fun _ => rfl) (by decide) (fun hp => by first | omega | (simp at hp; omega)) (fun hp => by first | omega | (simp at hp; omega))) ?_
 refine zar (qd rfl rfl rfl) rfl rfl (qk rfl tb5 (ev2 rfl) rfl) ?_
 refine zar (qd rfl rfl rfl) rfl rfl (qj rfl (ev2 rfl) (ev1 rfl)) ?_
 refine zae rfl rfl (qF rfl (ev1 rfl) (ev3 rfl id)) ?_
 refine ql ?_
 refine qt rfl (by
 have h2 : B[p]?.getD 0 = 0 := by rw [← qbI]; exact hz.2
 simp [h2]
 omega) ?_
 refine zac ?_
 refine zaa 1 rfl ?_
 refine za rfl (qC rfl (ev1 rfl) (fun s v h => by cases h; exact ⟨_, rfl⟩)) ?_
 refine za rfl (zas rfl ja (ev1 rfl)) ?_
 refine za rfl (zat rfl tb3 (ev1 rfl) rfl rfl) ?_
 refine za rfl (qc rfl (ev1 rfl) (ev1 rfl) (fun _ => qbg _ (by omega))) ?_
 refine za rfl (qC rfl (ev1 rfl) (fun s v h => by cases h; exact ⟨_, rfl⟩)) ?_
 refine za rfl (zas rfl ja (ev1 rfl)) ?_
 refine zaq rfl (kQ rfl tb3 (ev1 rfl) (ev1 rfl) (fun s v h => by cases h <;> exact ⟨rfl, rfl⟩) rfl (by first | decide | exact qbr rfl | simp)) ?_
 refine zab ?_
 refine zam 2 ?_
 refine qh [([], []), ([], []), ([], []), ([], []), ([], []), ([0], []), ([3], []), ([4], [4]), ([1, 5, 4], [1, 5]), ([], []), ([], []), ([], []), ([0], [0])] qJ (by kernel_rfl) ?_
 refine zae rfl rfl (zaj (.inl rfl) (ev1 rfl)) ?_
 refine zae rfl rfl (zaj (.inl rfl) (ev1 rfl)) ?_
 refine zae rfl rfl (qC rfl (ev1 rfl) (fun s v h => by cases h; exact ⟨_, rfl⟩)) ?_
 refine zae rfl rfl (zas rfl jn (ev1 rfl)) ?_
 refine zae rfl rfl (zas rfl jR (ev1 rfl)) ?_
 refine zae rfl rfl (zat rfl vS (ev1 rfl) rfl rfl) ?_
 refine zae rfl rfl (qL rfl qS (ev1 rfl) rfl (qb _)) ?_
 refine gg rfl rfl (gj (ps := [(0, .tmp 49)]) 4 rfl jo kN rfl (vc (ev1 rfl) vn) (uC _) (by decide) (by decide) rfl) rfl (by simp only [upd, zaf, zag]; exact rfl) ?_
 refine gg rfl rfl (jd (j := 5) rfl jo kN rfl (ev1 rfl) (ev1 rfl) (ga rfl) rfl rfl (fun _ => vF _) (fun _ => ⟨by omega, by omega⟩)) rfl (by simp only [upd, zaf, zag]; exact rfl) ?_
 refine zae rfl rfl (qC rfl (ev1 rfl) (fun s v h => by cases h; exact ⟨_, rfl⟩)) ?_
 refine zae rfl rfl (zas rfl jn (ev1 rfl)) ?_
 refine zae rfl rfl (zas rfl jR (ev1 rfl)) ?_
 refine jq rfl rfl (kQ rfl vS (ev1 rfl) (ev1 rfl) (fun s v h => by cases h <;> exact ⟨rfl, rfl⟩) rfl (by first | decide | exact qbr rfl | simp)) rfl (by simp only [upd, zaf, zag]; exact rfl) ?_
 refine ql ?_
 refine km [0, 1, 5] (qI rfl) rfl rfl ?_ ⟨rfl, rfl, jm (by rw [qbf]; rfl) (vG us t), trivial⟩
 rfl
theorem Xr (B : List Int) (hB : B.length ≤ 4000000000000000000) (w h : Int) (us : List TL) (hu : us.length ≤ 5000) (hi : isB B) (t : TL) (p : Nat) (hp : p ≤ B.length) (hz : ¬ (p < B.length ∧ bAt B p = 0)) (l : List C4) (q : Nat) (h0 : rdN B p = some (l, q)) (hne : kt l ≠ t) : DFun Tryz.prog 122 [.loc 0 0, tD t] [.mix 158 [.val (.int .i64 w), .val (.int .i64 h), .arr 1, .slf 1 (B).length ((B).flatMap uc8), .val (.int .i64 (p : Int))], .arr 84 256 (us).length ((us).flatMap tc)] (.tup []) [.mix 158 [.val (.int .i64 w), .val (.int .i64 h), .arr 2, .slf 1 (B).length ((B).flatMap uc8), .val (.int .i64 ((q : Nat) : Int))], .gone, .arr 84 256 ((us ++ [kt l])).length (((us ++ [kt l])).flatMap tc)] := by
 refine zap (N := 55) 2 (by kernel_rfl) Tryz.func122 rfl rfl rfl (by simp only [fr0, qbh, qbj]; exact rfl) rfl fun s0 hs0 => ?_
 refine zad ?_
 refine zam 1 ?_
 refine zac ?_
 refine zal rfl (j8 2 rfl (ev1 rfl) rfl) ?_
 refine zab ?_
 refine zad ?_
 refine zam 1 ?_
 refine zac ?_
 refine za rfl (qL rfl qS (ev1 rfl) rfl (qb _)) ?_
 refine zal rfl (zan 3 rfl kN rfl) ?_
 refine zaq rfl (qr rfl qS (ev1 rfl) (ev1 rfl) rfl (qb _) (k7 _) ((qb _).trans (qb _).symm)) ?_
 refine zab ?_
 refine zad ?_
 refine zad ?_
 refine qh [([], []), ([], []), ([], []), ([0], []), ([], []), ([], []), ([], []), ([0], []), ([], []), ([], []), ([], []), ([], []), ([], []), ([], []), ([0], []), ([], []), ([], []), ([], []), ([0], []), ([], []), ([], []), ([], []), ([], [])] qJ (by kernel_rfl) ?_
 refine zae rfl rfl (zaj (.inl rfl) (ev1 rfl)) ?_
 refine zae rfl rfl (qC rfl (ev1 rfl) (fun s v h => by cases h; exact ⟨_, rfl⟩)) ?_
 refine zae rfl rfl (zas rfl ja (ev1 rfl)) ?_
 refine zae rfl rfl (zat rfl tb3 (ev1 rfl) rfl rfl) ?_
 refine zae rfl rfl (zaj (.inl rfl) (ev1 rfl)) ?_
 refine zae rfl rfl (qC rfl (ev1 rfl) (fun s v h => by cases h; exact ⟨_, rfl⟩)) ?_
 refine zae rfl rfl (zas rfl gd (ev1 rfl)) ?_
 refine zae rfl rfl (zat rfl jg (ev1 rfl) rfl rfl) ?_
 refine zae rfl rfl (qm rfl qg (ev1 rfl)) ?_
 refine zae rfl rfl (qq rfl (ev1 rfl) (ev1 rfl)) ?_
 refine zae rfl rfl (zaj (.inl rfl) (ev1 rfl)) ?_
 refine zar (qd rfl rfl rfl) rfl rfl (zaj (.inl rfl) (ev1 rfl)) ?_
 refine zar (qd rfl rfl rfl) rfl rfl (qC rfl (ev2 rfl) (fun s v h => by cases h; exact ⟨_, rfl⟩)) ?_
 refine zar (qd rfl rfl rfl) rfl rfl (zas rfl gd (ev2 rfl)) ?_
 refine zar (qd rfl rfl rfl) rfl rfl (zat rfl jg (ev2 rfl) rfl rfl) ?_
 refine zar (qd rfl rfl rfl) rfl rfl (zaj (.inl rfl) (ev1 rfl)) ?_
 refine zar (qd rfl rfl rfl) rfl rfl (qC rfl (ev2 rfl) (fun s v h => by cases h; exact ⟨_, rfl⟩)) ?_
 refine zar (qd rfl rfl rfl) rfl rfl (zas rfl ja (ev2 rfl)) ?_
 refine zar (qd rfl rfl rfl) rfl rfl (zat rfl tb3 (ev2 rfl) rfl rfl) ?_
 refine zar (qd rfl rfl rfl) rfl rfl (kv (j := p) ((0 : Int)) rfl qg (ev2 rfl) (ev2 rfl) (fun _ => rfl) (by decide) (fun hp => by first | omega | (simp at hp; omega)) (fun hp => by first | omega | (simp at hp; omega))) ?_
 refine zar (qd rfl rfl rfl) rfl rfl (qk rfl tb5 (ev2 rfl) rfl) ?_
 refine zar (qd rfl rfl rfl) rfl rfl (qj rfl (ev2 rfl) (ev1 rfl)) ?_
 refine zae rfl rfl (qF rfl (ev1 rfl) (ev3 rfl id)) ?_
 refine ql ?_
 refine qf rfl (by
 rw [Bool.eq_false_iff]
 intro h
 simp at h
 exact hz ⟨by omega, by unfold bAt; rw [qbI]; exact h.2⟩) ?_
 refine zai ?_
 refine zaa 1 rfl ?_
 refine zal rfl (zak [0, 1] [] [] rfl (ev1 rfl) (ec (ev1 rfl) en) rfl rfl (VL B hB w h us hu hi p hp l q h0) rfl rfl rfl rfl rfl rfl) ?_
 refine zaq rfl (qr rfl qS (ev1 rfl) (ev1 rfl) rfl (qb _) (k7 _) ((qb _).trans (qb _).symm)) ?_
 refine zab ?_
 refine zai ?_
 refine za rfl (qL rfl qS (ev1 rfl) rfl (qb _)) ?_
 refine za rfl (qL rfl qS (ev1 rfl) rfl (qb _)) ?_
 refine za rfl (jY xA rfl xB qS (ev1 rfl) (ev1 rfl)) ?_
 refine zab ?_
 refine qf rfl (by simpa using hne) ?_
 refine zao ?_
 refine zam 2 ?_
 refine qh [([], []), ([], []), ([], []), ([], []), ([], []), ([0], []), ([3], []), ([4], [4]), ([1, 5, 4], [1, 5]), ([], []), ([], []), ([], []), ([0], [0])] qJ (by kernel_rfl) ?_
 refine zae rfl rfl (zaj (.inl rfl) (ev1 rfl)) ?_
 refine zae rfl rfl (zaj (.inl rfl) (ev1 rfl)) ?_
 refine zae rfl rfl (qC rfl (ev1 rfl) (fun s v h => by cases h; exact ⟨_, rfl⟩)) ?_
 refine zae rfl rfl (zas rfl jn (ev1 rfl)) ?_
 refine zae rfl rfl (zas rfl jR (ev1 rfl)) ?_
 refine zae rfl rfl (zat rfl vS (ev1 rfl) rfl rfl) ?_
 refine zae rfl rfl (qL rfl qS (ev1 rfl) rfl (qb _)) ?_
 refine gg rfl rfl (gj (ps := [(0, .tmp 49)]) 4 rfl jo kN rfl (vc (ev1 rfl) vn) (uC _) (by decide) (by decide) rfl) rfl (by simp only [upd, zaf, zag]; exact rfl) ?_
 refine gg rfl rfl (jd (j := 5) rfl jo kN rfl (ev1 rfl) (ev1 rfl) (ga rfl) rfl rfl (fun _ => vF _) (fun _ => ⟨by omega, by omega⟩)) rfl (by simp only [upd, zaf, zag]; exact rfl) ?_
 refine zae rfl rfl (qC rfl (ev1 rfl) (fun s v h => by cases h; exact ⟨_, rfl⟩)) ?_
 refine zae rfl rfl (zas rfl jn (ev1 rfl)) ?_
 refine zae rfl rfl (zas rfl jR (ev1 rfl)) ?_
 refine jq rfl rfl (kQ rfl vS (ev1 rfl) (ev1 rfl) (fun s v h => by cases h <;> exact ⟨rfl, rfl⟩) rfl (by first | decide | exact qbr rfl | simp)) rfl (by simp only [upd, zaf, zag]; exact rfl) ?_
 refine ql ?_
 refine km [0, 1, 5] (qI rfl) rfl rfl ?_ ⟨rfl, rfl, jm (by rw [qbf]; rfl) (vG us (kt l)), trivial⟩
 rfl
theorem Ha (B : List Int) (hB : B.length ≤ 4000000000000000000) (w h : Int) (us : List TL) (hu : us.length ≤ 5000) (hi : isB B) (t : TL) (p : Nat) (hp : p ≤ B.length) (hz : ¬ (p < B.length ∧ bAt B p = 0)) (h0 : rdN B p = none) : DPanL Tryz.prog 122 [.loc 0 0, tD t] [.mix 158 [.val (.int .i64 w), .val (.int .i64 h), .arr 1, .slf 1 (B).length ((B).flatMap uc8), .val (.int .i64 (p : Int))], .arr 84 256 (us).length ((us).flatMap tc)] (.ifc 181 (.val (.agg #[]))) := by
 refine zap (N := 55) 2 (by kernel_rfl) Tryz.func122 rfl rfl rfl (by simp only [fr0, qbh, qbj]; exact rfl) rfl fun s0 hs0 => ?_
 refine zad ?_
 refine zam 1 ?_
 refine zac ?_
 refine zal rfl (j8 2 rfl (ev1 rfl) rfl) ?_
 refine zab ?_
 refine zad ?_
 refine zam 1 ?_
 refine zac ?_
 refine za rfl (qL rfl qS (ev1 rfl) rfl (qb _)) ?_
 refine zal rfl (zan 3 rfl kN rfl) ?_
 refine zaq rfl (qr rfl qS (ev1 rfl) (ev1 rfl) rfl (qb _) (k7 _) ((qb _).trans (qb _).symm)) ?_
 refine zab ?_
 refine zad ?_
 refine zad ?_
 refine qh [([], []), ([], []), ([], []), ([0], []), ([], []), ([], []), ([], []), ([0], []), ([], []), ([], []), ([], []), ([], []), ([], []), ([], []), ([0], []), ([], []), ([], []), ([], []), ([0], []), ([], []), ([], []), ([], []), ([], [])] qJ (by kernel_rfl) ?_
 refine zae rfl rfl (zaj (.inl rfl) (ev1 rfl)) ?_
 refine zae rfl rfl (qC rfl (ev1 rfl) (fun s v h => by cases h; exact ⟨_, rfl⟩)) ?_
 refine zae rfl rfl (zas rfl ja (ev1 rfl)) ?_
 refine zae rfl rfl (zat rfl tb3 (ev1 rfl) rfl rfl) ?_
 refine zae rfl rfl (zaj (.inl rfl) (ev1 rfl)) ?_
 refine zae rfl rfl (qC rfl (ev1 rfl) (fun s v h => by cases h; exact ⟨_, rfl⟩)) ?_
 refine zae rfl rfl (zas rfl gd (ev1 rfl)) ?_
 refine zae rfl rfl (zat rfl jg (ev1 rfl) rfl rfl) ?_
 refine zae rfl rfl (qm rfl qg (ev1 rfl)) ?_
 refine zae rfl rfl (qq rfl (ev1 rfl) (ev1 rfl)) ?_
 refine zae rfl rfl (zaj (.inl rfl) (ev1 rfl)) ?_
 refine zar (qd rfl rfl rfl) rfl rfl (zaj (.inl rfl) (ev1 rfl)) ?_
 refine zar (qd rfl rfl rfl) rfl rfl (qC rfl (ev2 rfl) (fun s v h => by cases h; exact ⟨_, rfl⟩)) ?_
 refine zar (qd rfl rfl rfl) rfl rfl (zas rfl gd (ev2 rfl)) ?_
 refine zar (qd rfl rfl rfl) rfl rfl (zat rfl jg (ev2 rfl) rfl rfl) ?_
 refine zar (qd rfl rfl rfl) rfl rfl (zaj (.inl rfl) (ev1 rfl)) ?_
 refine zar (qd rfl rfl rfl) rfl rfl (qC rfl (ev2 rfl) (fun s v h => by cases h; exact ⟨_, rfl⟩)) ?_
 refine zar (qd rfl rfl rfl) rfl rfl (zas rfl ja (ev2 rfl)) ?_
 refine zar (qd rfl rfl rfl) rfl rfl (zat rfl tb3 (ev2 rfl) rfl rfl) ?_
 refine zar (qd rfl rfl rfl) rfl rfl (kv (j := p) ((0 : Int)) rfl qg (ev2 rfl) (ev2 rfl) (fun _ => rfl) (by decide) (fun hp => by first | omega | (simp at hp; omega)) (fun hp => by first | omega | (simp at hp; omega))) ?_
 refine zar (qd rfl rfl rfl) rfl rfl (qk rfl tb5 (ev2 rfl) rfl) ?_
 refine zar (qd rfl rfl rfl) rfl rfl (qj rfl (ev2 rfl) (ev1 rfl)) ?_
 refine zae rfl rfl (qF rfl (ev1 rfl) (ev3 rfl id)) ?_
 refine ql ?_
 refine qf rfl (by
 rw [Bool.eq_false_iff]
 intro h
 simp at h
 exact hz ⟨by omega, by unfold bAt; rw [qbI]; exact h.2⟩) ?_
 refine zai ?_
 refine zaa 1 rfl ?_
 refine kz rfl (qQ [0, 1] [] [] rfl (ev1 rfl) (ec (ev1 rfl) en) rfl rfl ((Z9 B hB w h us hu hi p hp h0).dead) rfl rfl rfl rfl rfl rfl) rfl ?_
 refine vR (Mo := [_, _]) [0, 1] rfl rfl ?_ ⟨rfl, rfl, trivial⟩ rfl
 rfl
theorem Hb (B : List Int) (hB : B.length ≤ 4000000000000000000) (w h : Int) (us : List TL) (hu : us.length ≤ 5000) (hi : isB B) (t : TL) (p : Nat) (hp : p ≤ B.length) (hz : ¬ (p < B.length ∧ bAt B p = 0)) (l : List C4) (q : Nat) (h0 : rdN B p = some (l, q)) (hne : kt l = t) : DPanL Tryz.prog 122 [.loc 0 0, tD t] [.mix 158 [.val (.int .i64 w), .val (.int .i64 h), .arr 1, .slf 1 (B).length ((B).flatMap uc8), .val (.int .i64 (p : Int))], .arr 84 256 (us).length ((us).flatMap tc)] (.ifc 181 (.val (.agg #[]))) := by
 refine zap (N := 55) 2 (by kernel_rfl) Tryz.func122 rfl rfl rfl (by simp only [fr0, qbh, qbj]; exact rfl) rfl fun s0 hs0 => ?_
 refine zad ?_
 refine zam 1 ?_
 refine zac ?_
 refine zal rfl (j8 2 rfl (ev1 rfl) rfl) ?_
 refine zab ?_
 refine zad ?_
 refine zam 1 ?_
 refine zac ?_
 refine za rfl (qL rfl qS (ev1 rfl) rfl (qb _)) ?_
 refine zal rfl (zan 3 rfl kN rfl) ?_
 refine zaq rfl (qr rfl qS (ev1 rfl) (ev1 rfl) rfl (qb _) (k7 _) ((qb _).trans (qb _).symm)) ?_
 refine zab ?_
 refine zad ?_
 refine zad ?_
 refine qh [([], []), ([], []), ([], []), ([0], []), ([], []), ([], []), ([], []), ([0], []), ([], []), ([], []), ([], []), ([], []), ([], []), ([], []), ([0], []), ([], []), ([], []), ([], []), ([0], []), ([], []), ([], []), ([], []), ([], [])] qJ (by kernel_rfl) ?_
 refine zae rfl rfl (zaj (.inl rfl) (ev1 rfl)) ?_
 refine zae rfl rfl (qC rfl (ev1 rfl) (fun s v h => by cases h; exact ⟨_, rfl⟩)) ?_
 refine zae rfl rfl (zas rfl ja (ev1 rfl)) ?_
 refine zae rfl rfl (zat rfl tb3 (ev1 rfl) rfl rfl) ?_
 refine zae rfl rfl (zaj (.inl rfl) (ev1 rfl)) ?_
 refine zae rfl rfl (qC rfl (ev1 rfl) (fun s v h => by cases h; exact ⟨_, rfl⟩)) ?_
 refine zae rfl rfl (zas rfl gd (ev1 rfl)) ?_
 refine zae rfl rfl (zat rfl jg (ev1 rfl) rfl rfl) ?_
 refine zae rfl rfl (qm rfl qg (ev1 rfl)) ?_
 refine zae rfl rfl (qq rfl (ev1 rfl) (ev1 rfl)) ?_
 refine zae rfl rfl (zaj (.inl rfl) (ev1 rfl)) ?_
 refine zar (qd rfl rfl rfl) rfl rfl (zaj (.inl rfl) (ev1 rfl)) ?_
 refine zar (qd rfl rfl rfl) rfl rfl (qC rfl (ev2 rfl) (fun s v h => by cases h; exact ⟨_, rfl⟩)) ?_
 refine zar (qd rfl rfl rfl) rfl rfl (zas rfl gd (ev2 rfl)) ?_
 refine zar (qd rfl rfl rfl) rfl rfl (zat rfl jg (ev2 rfl) rfl rfl) ?_
 refine zar (qd rfl rfl rfl) rfl rfl (zaj (.inl rfl) (ev1 rfl)) ?_
 refine zar (qd rfl rfl rfl) rfl rfl (qC rfl (ev2 rfl) (fun s v h => by cases h; exact ⟨_, rfl⟩)) ?_
 refine zar (qd rfl rfl rfl) rfl rfl (zas rfl ja (ev2 rfl)) ?_
 refine zar (qd rfl rfl rfl) rfl rfl (zat rfl tb3 (ev2 rfl) rfl rfl) ?_
 refine zar (qd rfl rfl rfl) rfl rfl (kv (j := p) ((0 : Int)) rfl qg (ev2 rfl) (ev2 rfl) (fun _ => rfl) (by decide) (fun hp => by first | omega | (simp at hp; omega)) (fun hp => by first | omega | (simp at hp; omega))) ?_
 refine zar (qd rfl rfl rfl) rfl rfl (qk rfl tb5 (ev2 rfl) rfl) ?_
 refine zar (qd rfl rfl rfl) rfl rfl (qj rfl (ev2 rfl) (ev1 rfl)) ?_
 refine zae rfl rfl (qF rfl (ev1 rfl) (ev3 rfl id)) ?_
 refine ql ?_
 refine qf rfl (by
 rw [Bool.eq_false_iff]
 intro h
 simp at h
 exact hz ⟨by omega, by unfold bAt; rw [qbI]; exact h.2⟩) ?_
 refine zai ?_
 refine zaa 1 rfl ?_
 refine zal rfl (zak [0, 1] [] [] rfl (ev1 rfl) (ec (ev1 rfl) en) rfl rfl (VL B hB w h us hu hi p hp l q h0) rfl rfl rfl rfl rfl rfl) ?_
 refine zaq rfl (qr rfl qS (ev1 rfl) (ev1 rfl) rfl (qb _) (k7 _) ((qb _).trans (qb _).symm)) ?_
 refine zab ?_
 refine zai ?_
 refine za rfl (qL rfl qS (ev1 rfl) rfl (qb _)) ?_
 refine za rfl (qL rfl qS (ev1 rfl) rfl (qb _)) ?_
 refine za rfl (jY xA rfl xB qS (ev1 rfl) (ev1 rfl)) ?_
 refine zab ?_
 refine qt rfl (by simpa using hne) ?_
 refine zac ?_
 refine za rfl (kH rfl YE KL) ?_
 refine za rfl (zr rfl KJ (ev1 rfl)) ?_
 refine kz rfl (wM rfl (ev1 rfl)) rfl ?_
 refine vR (Mo := [_, _]) [0, 1] rfl rfl ?_ ⟨rfl, rfl, trivial⟩ rfl
 rfl
end Go.Proofs.YtofklkbfkoliiaaGreat
namespace Go.Proofs.YtofklkbfkoliiaaGreat
set_option linter.unusedVariables false
set_option linter.unusedSimpArgs false
open Go.RowKit
attribute [local irreducible] kt rdP rdN ya
def zrB (B : List Int) (p : Nat) : Bool := decide (p < B.length) && decide (bAt B p = 0)
theorem zrB_iff {B : List Int} {p : Nat} : zrB B p = true ↔ p < B.length ∧ bAt B p = 0 := by unfold zrB; simp
def jk (kn : List TL → TL) (B : List Int) : Nat → List TL → Nat → Option (List TL × Nat)
 | 0, acc, p => some (acc, p)
 | n + 1, acc, p => if zrB B p = true then jk kn B n (acc ++ [kn acc]) (p + 1) else match rdN B p with
  | some x => if kt x.1 = kn acc then none else jk kn B n (acc ++ [kt x.1]) x.2
  | none => none
theorem yq {B : List Int} {p q : Nat} {l : List C4} (h : rdN B p = some (l, q)) : q ≤ B.length ∧ p ≤ q ∧ l.length = 64 := by
 unfold rdN at h
 exact GK h
theorem zU (kn : List TL → TL) (B : List Int) : ∀ (n : Nat) (acc : List TL) (p : Nat), p ≤ B.length → Je kn n acc (B.drop p) = (jk kn B n acc p).map fun x => (x.1, B.drop x.2)
 | 0, _, _, _ => rfl
 | n + 1, acc, p, h => by
  have hz : (B.drop p).head? = some 0 ↔ zrB B p = true := by
   rw [zrB_iff]
   by_cases hp : p < B.length
   ·rw [jt hp]
    simp [hp]
   ·rw [List.drop_eq_nil_of_le (by omega)]
    simp
    omega
  rw [Je, jk]
  by_cases hc : zrB B p = true
  ·rw [if_pos (hz.2 hc), if_pos hc, List.drop_drop]
   exact zU kn B n _ (p + 1) (zrB_iff.1 hc).1
  ·rw [if_neg (fun e => hc (hz.1 e)), if_neg hc, Xi h]
   cases hx : rdN B p with
   | none => rfl
   | some x =>
    obtain ⟨l, q⟩ := x
    simp only [Option.map_some]
    by_cases hk : kt l = kn acc
    ·rw [if_pos hk, if_pos hk]; rfl
    ·rw [if_neg hk, if_neg hk]; exact zU kn B n _ q (yq hx).1
theorem uV {kn : List TL → TL} {B : List Int} {n : Nat} {acc : List TL} {p : Nat} {r : Option (List TL × Nat)} (hn : 0 < n) (hz : zrB B p = true) (h : jk kn B n acc p = r) : jk kn B (n - 1) (acc ++ [kn acc]) (p + 1) = r := by
 cases n with
 | zero => omega
 | succ n => rw [jk, if_pos hz] at h; exact h
theorem uW {kn : List TL → TL} {B : List Int} {n : Nat} {acc : List TL} {p q : Nat} {l : List C4} {r : Option (List TL × Nat)} (hn : 0 < n) (hz : ¬ zrB B p = true) (h0 : rdN B p = some (l, q)) (hne : kt l ≠ kn acc) (h : jk kn B n acc p = r) : jk kn B (n - 1) (acc ++ [kt l]) q = r := by
 cases n with
 | zero => omega
 | succ n => rw [jk, if_neg hz, h0] at h; simp only at h; rw [if_neg hne] at h; exact h
theorem uq {kn : List TL → TL} {B : List Int} {n : Nat} {acc : List TL} {p : Nat} {x : List TL × Nat} (hn : 0 < n) (hz : ¬ zrB B p = true) (h : jk kn B n acc p = some x) : ∃ l q, rdN B p = some (l, q) ∧ kt l ≠ kn acc := by
 cases n with
 | zero => omega
 | succ n =>
  rw [jk, if_neg hz] at h
  cases hx : rdN B p with
  | none => rw [hx] at h; cases h
  | some y =>
   obtain ⟨l, q⟩ := y
   rw [hx] at h
   simp only at h
   by_cases hk : kt l = kn acc
   ·rw [if_pos hk] at h; cases h
   ·exact ⟨l, q, rfl, hk⟩
theorem vW {kn : List TL → TL} {B : List Int} : ∀ {n : Nat} {acc : List TL} {p : Nat} {ts : List TL} {q : Nat}, p ≤ B.length → jk kn B n acc p = some (ts, q) → ts.length = acc.length + n ∧ p ≤ q ∧ q ≤ B.length
 | 0, acc, p, ts, q, hp, h => by cases h; exact ⟨rfl, qby _, hp⟩
 | n + 1, acc, p, ts, q, hp, h => by
  by_cases hz : zrB B p = true
  ·obtain ⟨h1, h2, h3⟩ := vW (zrB_iff.1 hz).1 (uV (Nat.succ_pos n) hz h)
   exact ⟨by rw [h1, qbf]; simp; omega, by omega, h3⟩
  ·obtain ⟨l, q', h0, hne⟩ := uq (Nat.succ_pos n) hz h
   obtain ⟨g1, g2, _⟩ := yq h0
   obtain ⟨h1, h2, h3⟩ := vW g1 (uW (Nat.succ_pos n) hz h0 hne h)
   exact ⟨by rw [h1, qbf]; simp; omega, by omega, h3⟩
theorem y8 {us : List TL} (h : 0 < us.length) : qy us = us[us.length - 1] := by
 unfold qy
 rw [List.getLastD_eq_getLast?, List.getLast?_eq_getElem?, qbe (by omega)]
 rfl
theorem JV {us : List TL} {k : Nat} (h0 : 0 < k) (h : k ≤ us.length) : qy (us.take k) = us[k - 1] := by
 rw [y8 (by rw [qbD]; omega)]
 simp only [qbD, List.getElem_take]
 congr 1
 omega
theorem qaq (B : List Int) (hB : B.length ≤ 4000000000000000000) (w h : Int) (us : List TL) (hu : us.length ≤ 5000) (hi : isB B) (t : TL) (p : Nat) (hp : p ≤ B.length) (hz : ¬ (p < B.length ∧ bAt B p = 0)) (hno : ∀ l q, rdN B p = some (l, q) → kt l = t) : DPanL Tryz.prog 122 [.loc 0 0, tD t] [.mix 158 [.val (.int .i64 w), .val (.int .i64 h), .arr 1, .slf 1 (B).length ((B).flatMap uc8), .val (.int .i64 (p : Int))], .arr 84 256 (us).length ((us).flatMap tc)] (.ifc 181 (.val (.agg #[]))) := by
 cases h0 : rdN B p with
 | none => exact Ha B hB w h us hu hi t p hp hz h0
 | some x => exact Hb B hB w h us hu hi t p hp hz x.1 x.2 h0 (hno _ _ h0)
theorem xF (B : List Int) (hB : B.length ≤ 4000000000000000000) (w h : Int) (us : List TL) (hu : us.length ≤ 5000) (p : Nat) : DFun Tryz.prog 112 [.val (.int .i64 (us.length : Int)), .loc 2 0] [.mix 158 [.val (.int .i64 w), .val (.int .i64 h), .arr 1, .slf 1 (B).length ((B).flatMap uc8), .val (.int .i64 (p : Int))], .arr 84 256 (us).length ((us).flatMap tc), .mix 146 [.loc 0 0]] (.val (.agg (tc (qy us)).toArray)) [.mix 158 [.val (.int .i64 w), .val (.int .i64 h), .arr 1, .slf 1 (B).length ((B).flatMap uc8), .val (.int .i64 (p : Int))], .arr 84 256 (us).length ((us).flatMap tc), .mix 146 [.loc 0 0]] := by
 refine zap (N := 15) 3 (by kernel_rfl) Tryz.func112 rfl rfl rfl (by simp only [fr0, qbh, qbj]; exact rfl) rfl fun s0 hs0 => ?_
 refine zad ?_
 refine zam 1 ?_
 refine zac ?_
 refine zal rfl (zan 3 rfl kN rfl) ?_
 refine zab ?_
 refine zad ?_
 refine zai ?_
 refine zaa 1 rfl ?_
 refine za rfl (qj rfl (ev1 rfl) (ev1 rfl)) ?_
 refine zab ?_
 refine qi rfl (fun c1 => ?_) (fun c1 => ?_)
 ·try simp only [decide_eq_true_eq, decide_eq_false_iff_not, beq_iff_eq, bne_iff_ne, beq_eq_false_iff_ne, bne_eq_false_iff_eq, qbl, qbm, qbi, qbo, qbk, ne_eq, Decidable.not_not, qbz, qbA] at c1
  obtain rfl : us = [] := qbH (by omega)
  refine zai ?_
  refine za rfl (js rfl vE kN) ?_
  refine zaq rfl (qr rfl qS (ev1 rfl) (ev1 rfl) rfl (qb _) (k7 _) ((qb _).trans (qb _).symm)) ?_
  refine zab ?_
  refine zau ?_
  refine km [0, 1, 2] (rs1 rfl (gy qS rfl rfl (qb _))) rfl rfl ?_ ⟨rfl, rfl, rfl, trivial⟩
  rfl
 ·try simp only [decide_eq_true_eq, decide_eq_false_iff_not, beq_iff_eq, bne_iff_ne, beq_eq_false_iff_ne, bne_eq_false_iff_eq, qbl, qbm, qbi, qbo, qbk, ne_eq, Decidable.not_not, qbz, qbA] at c1
  refine zao ?_
  refine zai ?_
  refine za rfl (zat rfl Ad (ev1 rfl) rfl rfl) ?_
  refine za rfl (qC rfl (ev1 rfl) (fun s v h => by cases h; exact ⟨_, rfl⟩)) ?_
  refine za rfl (zas rfl jR (ev1 rfl)) ?_
  refine za rfl (zat rfl vS (ev1 rfl) rfl rfl) ?_
  refine zaa 1 rfl ?_
  refine za rfl (je rfl (ev1 rfl) (ev1 rfl) (fun _ => qbg _ (by omega))) ?_
  refine za rfl (Gw (j := us.length - 1) rfl jo (ev1 rfl) (ev1 rfl) rfl (fun _ => by first | rfl | omega) (fun _ => by omega)) ?_
  refine za rfl (Gx rfl qS (ev1 rfl) rfl (qb) (by omega)) ?_
  refine zaq rfl (qr rfl qS (ev1 rfl) (ev1 rfl) rfl (qb _) (k7 _) ((qb _).trans (qb _).symm)) ?_
  refine zab ?_
  refine zau ?_
  refine km [0, 1, 2] (rs1 rfl (gy qS rfl rfl (qb _))) rfl rfl ?_ ⟨rfl, rfl, rfl, trivial⟩
  rw [y8 (by omega)]
theorem Hc (a b : Int) (old : List TL) (k : Nat) (hk : k ≤ old.length) (hl : old.length ≤ 5000) : DFun Tryz.prog 112 [.val (.int .i64 (k : Int)), .loc 0 0] [.mix 146 [.loc 1 0], .mix 24 [.val (.int .i64 a), .val (.int .i64 b), .slf 256 old.length (old.flatMap tc)]] (.val (.agg (tc (qy (old.take k))).toArray)) [.mix 146 [.loc 1 0], .mix 24 [.val (.int .i64 a), .val (.int .i64 b), .slf 256 old.length (old.flatMap tc)]] := by
 refine zap (N := 15) 2 (by kernel_rfl) Tryz.func112 rfl rfl rfl (by simp only [fr0, qbh, qbj]; exact rfl) rfl fun s0 hs0 => ?_
 refine zad ?_
 refine zam 1 ?_
 refine zac ?_
 refine zal rfl (zan 2 rfl kN rfl) ?_
 refine zab ?_
 refine zad ?_
 refine zai ?_
 refine zaa 1 rfl ?_
 refine za rfl (qj rfl (ev1 rfl) (ev1 rfl)) ?_
 refine zab ?_
 refine qi rfl (fun c1 => ?_) (fun c1 => ?_)
 ·try simp only [decide_eq_true_eq, decide_eq_false_iff_not, beq_iff_eq, bne_iff_ne, beq_eq_false_iff_ne, bne_eq_false_iff_eq, qbl, qbm, qbi, qbo, qbk, ne_eq, Decidable.not_not, qbz, qbA] at c1
  obtain rfl : k = 0 := by omega
  refine zai ?_
  refine za rfl (js rfl vE kN) ?_
  refine zaq rfl (qr rfl qS (ev1 rfl) (ev1 rfl) rfl (qb _) (k7 _) ((qb _).trans (qb _).symm)) ?_
  refine zab ?_
  refine zau ?_
  refine km [0, 1] (rs1 rfl (gy qS rfl rfl (qb _))) rfl rfl ?_ ⟨rfl, rfl, trivial⟩
  rfl
 ·try simp only [decide_eq_true_eq, decide_eq_false_iff_not, beq_iff_eq, bne_iff_ne, beq_eq_false_iff_ne, bne_eq_false_iff_eq, qbl, qbm, qbi, qbo, qbk, ne_eq, Decidable.not_not, qbz, qbA] at c1
  refine zao ?_
  refine zai ?_
  refine za rfl (zat rfl Ad (ev1 rfl) rfl rfl) ?_
  refine za rfl (qC rfl (ev1 rfl) (fun s v h => by cases h; exact ⟨_, rfl⟩)) ?_
  refine za rfl (zas rfl jR (ev1 rfl)) ?_
  refine za rfl (zat rfl vS (ev1 rfl) rfl rfl) ?_
  refine zaa 1 rfl ?_
  refine za rfl (je rfl (ev1 rfl) (ev1 rfl) (fun _ => qbg _ (by omega))) ?_
  refine za rfl (qu (j := k - 1) rfl jo (ev1 rfl) (ev1 rfl) qb (by decide) (by omega) (by omega)) ?_
  refine za rfl (vr rfl qS (ev1 rfl) (qb _)) ?_
  refine zaq rfl (qr rfl qS (ev1 rfl) (ev1 rfl) rfl (qb _) (k7 _) ((qb _).trans (qb _).symm)) ?_
  refine zab ?_
  refine zau ?_
  refine km [0, 1] (rs1 rfl (gy qS rfl rfl (qb _))) rfl rfl ?_ ⟨rfl, rfl, trivial⟩
  rw [JV (by omega) hk]
theorem Hd (a b : Int) (old : List TL)  : DFun Tryz.prog 88 [.loc 0 0] [.mix 24 [.val (.int .i64 a), .val (.int .i64 b), .slf 256 old.length (old.flatMap tc)]] (.fn (.func 112) [] [.loc 1 0]) [.mix 24 [.val (.int .i64 a), .val (.int .i64 b), .slf 256 old.length (old.flatMap tc)], .mix 146 [.loc 0 0]] := by
 refine zap (N := 4) 1 (by kernel_rfl) Tryz.func88 rfl rfl rfl (by simp only [fr0, qbh, qbj]; exact rfl) rfl fun s0 hs0 => ?_
 refine zad ?_
 refine zam 1 ?_
 refine zac ?_
 refine zal rfl (gW 1 rfl (ev1 rfl) (fun s v h => by cases h <;> rfl) rfl) ?_
 refine zaa 1 rfl ?_
 refine zab ?_
 refine zai ?_
 refine za rfl (ki rfl en (ec (ev1 rfl) en)) ?_
 refine zaa 1 rfl ?_
 refine zab ?_
 refine zau ?_
 refine km [0, 1] (rs1 rfl (qB rfl)) rfl rfl ?_ ⟨rfl, rfl, trivial⟩
 rfl
end Go.Proofs.YtofklkbfkoliiaaGreat
namespace Go.Proofs.YtofklkbfkoliiaaGreat
set_option linter.unusedVariables false
set_option linter.unusedSimpArgs false
open Go.RowKit
attribute [local irreducible] kt rdP rdN ya
theorem YV (B : List Int) (hB : B.length ≤ 4000000000000000000) (hi : isB B) (w h : Int) (p : Nat) : DFun Tryz.prog 88 [.loc 0 0] [.mix 158 [.val (.int .i64 w), .val (.int .i64 h), .val (.slice none 0 0), .slf 1 (B).length ((B).flatMap uc8), .val (.int .i64 ((p : Int) : Int))]] (.fn (.func 112) [] [.loc 1 0]) [.mix 158 [.val (.int .i64 w), .val (.int .i64 h), .val (.slice none 0 0), .slf 1 (B).length ((B).flatMap uc8), .val (.int .i64 ((p : Int) : Int))], .mix 146 [.loc 0 0]] := by
 refine zap (N := 4) 1 (by kernel_rfl) Tryz.func88 rfl rfl rfl (by simp only [fr0, qbh, qbj]; exact rfl) rfl fun s0 hs0 => ?_
 refine zad ?_
 refine zam 1 ?_
 refine zac ?_
 refine zal rfl (gW 1 rfl (ev1 rfl) (fun s v h => by cases h <;> rfl) rfl) ?_
 refine zaa 1 rfl ?_
 refine zab ?_
 refine zai ?_
 refine za rfl (ki rfl en (ec (ev1 rfl) en)) ?_
 refine zaa 1 rfl ?_
 refine zab ?_
 refine zau ?_
 refine km [0, 1] (rs1 rfl (qB rfl)) rfl rfl ?_ ⟨rfl, rfl, trivial⟩
 rfl
theorem He (B : List Int) (hB : B.length ≤ 4000000000000000000) (hi : isB B) (w h : Int) (n : Nat) (hm : jV w h = true) (hn : w * h = (n : Int)) (p0 : Nat) (hp0 : p0 ≤ B.length) (ts : List TL) (q : Nat) (h0 : jk qy B n [] p0 = some (ts, q)) : DFun Tryz.prog 99 [.loc 0 0, .fn (.func 112) [] [.loc 1 0]] [.mix 158 [.val (.int .i64 w), .val (.int .i64 h), .val (.slice none 0 0), .slf 1 (B).length ((B).flatMap uc8), .val (.int .i64 ((p0 : Nat) : Int))], .mix 146 [.loc 0 0]] (.tup []) [.mix 158 [.val (.int .i64 w), .val (.int .i64 h), .arr 2, .slf 1 (B).length ((B).flatMap uc8), .val (.int .i64 ((q : Nat) : Int))], .mix 146 [.loc 0 0], .arr 84 256 (ts).length ((ts).flatMap tc)] := by
 have hb := wg hm
 refine zap (N := 28) 2 (by kernel_rfl) Tryz.func99 rfl rfl rfl (by simp only [fr0, qbh, qbj]; exact rfl) rfl fun s0 hs0 => ?_
 refine zai ?_
 refine zaa 1 rfl ?_
 refine za rfl (ki rfl (ec (ev1 rfl) en) en) ?_
 refine zaa 1 rfl ?_
 refine zab ?_
 refine zad ?_
 refine we (l' := [.val (.int .i64 w), .val (.int .i64 h), .arr 2, .slf 1 (B).length ((B).flatMap uc8), .val (.int .i64 (p0 : Int))]) 0 2 84 256 rfl rfl rfl rfl (by simp only [qbp, qbq, zaf, zag]; exact rfl) ?_
 refine jf 2 GD rfl rfl (by simp only [qbp, qbq, zaf, zag, qbC, qbQ, qbh, qbj]; exact rfl) ?_
 refine qh [([], []), ([], []), ([], []), ([], []), ([0], []), ([], []), ([], []), ([], []), ([], []), ([0], []), ([], []), ([], [])] qJ (by kernel_rfl) ?_
 refine zae rfl rfl (zaj (.inl rfl) (ev1 rfl)) ?_
 refine zae rfl rfl (qC rfl (ev1 rfl) (fun s v h => by cases h; exact ⟨_, rfl⟩)) ?_
 refine zae rfl rfl (zas rfl jn (ev1 rfl)) ?_
 refine zae rfl rfl (zas rfl gJ (ev1 rfl)) ?_
 refine zae rfl rfl (zat rfl tb3 (ev1 rfl) rfl rfl) ?_
 refine zae rfl rfl (zaj (.inl rfl) (ev1 rfl)) ?_
 refine zae rfl rfl (qC rfl (ev1 rfl) (fun s v h => by cases h; exact ⟨_, rfl⟩)) ?_
 refine zae rfl rfl (zas rfl jn (ev1 rfl)) ?_
 refine zae rfl rfl (zas rfl gK (ev1 rfl)) ?_
 refine zae rfl rfl (zat rfl tb3 (ev1 rfl) rfl rfl) ?_
 refine zae rfl rfl (jL rfl (ev1 rfl) (ev1 rfl) (fun _ => qbg _ (by omega))) ?_
 refine zae rfl rfl (zaj (.inl rfl) (ev1 rfl)) ?_
 refine ql ?_
 refine zav ?_
 refine qE ⟨hs0, rfl⟩ (α := List TL × Nat) (fun x => [(19, .val (.int .i64 (x.1.length : Int)))]) [(1, _), (4, _), (18, _)] (fun x => [(0, .mix 158 [.val (.int .i64 w), .val (.int .i64 h), .arr 2, .slf 1 (B).length ((B).flatMap uc8), .val (.int .i64 ((x.2 : Nat) : Int))]), (2, .arr 84 256 (x.1).length ((x.1).flatMap tc))]) [.hole, _, .hole] (fun x => x.1.length ≤ n ∧ x.2 ≤ B.length ∧ jk qy B (n - x.1.length) x.1 x.2 = some (ts, q)) (fun x => n - x.1.length) ([], p0) [0, 1, 2] (⟨qbO _, hp0, h0⟩) rfl ⟨rfl, rfl, rfl, trivial⟩ ⟨rfl, trivial⟩ ⟨rfl, rfl, rfl, trivial⟩ ?_
 intro x hx
 simp only [upd, zaf, zag, qbp, qbq]
 obtain ⟨us, p⟩ := x
 obtain ⟨hul, hp, hrd⟩ := hx
 dsimp only at hul hp hrd ⊢
 refine zai ?_
 refine za rfl (qq rfl (ev1 rfl) (ev1 rfl)) ?_
 refine zab ?_
 refine zad ?_
 refine qi rfl (fun c1 => ?_) (fun c1 => ?_)
 ·try simp only [decide_eq_true_eq, decide_eq_false_iff_not, beq_iff_eq, bne_iff_ne, beq_eq_false_iff_ne, bne_eq_false_iff_eq, qbl, qbm, qbi, qbo, qbk, ne_eq, Decidable.not_not, qbz, qbA] at c1
  have hlt : us.length < n := by omega
  refine zao ?_
  refine zad ?_
  refine zav ?_
  refine zai ?_
  refine zaa 2 rfl ?_
  refine zab ?_
  by_cases hz : zrB B p = true
  ·refine zam 1 ?_
   refine zac ?_
   refine zaa 3 rfl ?_
   refine zal rfl (zak [0, 2, 1] [] [] rfl (ev1 rfl) (ec (ev1 rfl) en) rfl rfl (xF B hB w h us (by omega) p) rfl rfl rfl rfl rfl rfl) ?_
   refine zal rfl (zak [0, 2] [] [3] rfl (ev1 rfl) (ec (ev1 rfl) en) rfl rfl (Xq B hB w h us (by omega) hi (qy us) p hp (zrB_iff.1 hz)) rfl rfl rfl rfl rfl rfl) ?_
   refine zab ?_
   refine zac ?_
   refine za rfl (qc rfl (ev1 rfl) (ev1 rfl) (fun _ => qbg _ (by omega))) ?_
   refine zaa 1 rfl ?_
   refine zab ?_
   refine ⟨(us ++ [qy us], p + 1), [0, 1, 3], ⟨by rw [qbf]; exact hlt, (zrB_iff.1 hz).1, by rw [qbf]; exact uV (n := n - us.length) (by omega) hz hrd⟩, by simp only [qbf, qbC, qbQ]; omega, rfl, ⟨by rw [qbf]; rfl, rfl, rfl, rfl, trivial⟩, ⟨rfl, rfl, rfl, trivial⟩⟩
  ·obtain ⟨l, q1, hl0, hne⟩ := uq (n := n - us.length) (by omega) hz hrd
   refine zam 1 ?_
   refine zac ?_
   refine zaa 3 rfl ?_
   refine zal rfl (zak [0, 2, 1] [] [] rfl (ev1 rfl) (ec (ev1 rfl) en) rfl rfl (xF B hB w h us (by omega) p) rfl rfl rfl rfl rfl rfl) ?_
   refine zal rfl (zak [0, 2] [] [3] rfl (ev1 rfl) (ec (ev1 rfl) en) rfl rfl (Xr B hB w h us (by omega) hi (qy us) p hp (fun e => hz (zrB_iff.2 e)) l q1 hl0 hne) rfl rfl rfl rfl rfl rfl) ?_
   refine zab ?_
   refine zac ?_
   refine za rfl (qc rfl (ev1 rfl) (ev1 rfl) (fun _ => qbg _ (by omega))) ?_
   refine zaa 1 rfl ?_
   refine zab ?_
   refine ⟨(us ++ [kt l], q1), [0, 1, 3], ⟨by rw [qbf]; exact hlt, (yq hl0).1, by rw [qbf]; exact uW (n := n - us.length) (by omega) hz hl0 hne hrd⟩, by simp only [qbf, qbC, qbQ]; omega, rfl, ⟨by rw [qbf]; rfl, rfl, rfl, rfl, trivial⟩, ⟨rfl, rfl, rfl, trivial⟩⟩
 ·try simp only [decide_eq_true_eq, decide_eq_false_iff_not, beq_iff_eq, bne_iff_ne, beq_eq_false_iff_ne, bne_eq_false_iff_eq, qbl, qbm, qbi, qbo, qbk, ne_eq, Decidable.not_not, qbz, qbA] at c1
  refine qz ?_
  have e0 : n - us.length = 0 := by omega
  rw [e0] at hrd
  have hrd2 : some (us, p) = some (ts, q) := hrd
  cases hrd2
  refine km [0, 1, 2] (qI rfl) rfl rfl ?_ ⟨rfl, rfl, rfl, trivial⟩
  rfl
theorem Xs (B : List Int) (hB : B.length ≤ 4000000000000000000) (hi : isB B) (w h : Int) (n : Nat) (hm : jV w h = true) (hn : w * h = (n : Int)) (p0 : Nat) (hp0 : p0 ≤ B.length) (h0 : jk qy B n [] p0 = none) : DPanL Tryz.prog 99 [.loc 0 0, .fn (.func 112) [] [.loc 1 0]] [.mix 158 [.val (.int .i64 w), .val (.int .i64 h), .val (.slice none 0 0), .slf 1 (B).length ((B).flatMap uc8), .val (.int .i64 ((p0 : Nat) : Int))], .mix 146 [.loc 0 0]] (.ifc 181 (.val (.agg #[]))) := by
 have hb := wg hm
 refine zap (N := 28) 2 (by kernel_rfl) Tryz.func99 rfl rfl rfl (by simp only [fr0, qbh, qbj]; exact rfl) rfl fun s0 hs0 => ?_
 refine zai ?_
 refine zaa 1 rfl ?_
 refine za rfl (ki rfl (ec (ev1 rfl) en) en) ?_
 refine zaa 1 rfl ?_
 refine zab ?_
 refine zad ?_
 refine we (l' := [.val (.int .i64 w), .val (.int .i64 h), .arr 2, .slf 1 (B).length ((B).flatMap uc8), .val (.int .i64 (p0 : Int))]) 0 2 84 256 rfl rfl rfl rfl (by simp only [qbp, qbq, zaf, zag]; exact rfl) ?_
 refine jf 2 GD rfl rfl (by simp only [qbp, qbq, zaf, zag, qbC, qbQ, qbh, qbj]; exact rfl) ?_
 refine qh [([], []), ([], []), ([], []), ([], []), ([0], []), ([], []), ([], []), ([], []), ([], []), ([0], []), ([], []), ([], [])] qJ (by kernel_rfl) ?_
 refine zae rfl rfl (zaj (.inl rfl) (ev1 rfl)) ?_
 refine zae rfl rfl (qC rfl (ev1 rfl) (fun s v h => by cases h; exact ⟨_, rfl⟩)) ?_
 refine zae rfl rfl (zas rfl jn (ev1 rfl)) ?_
 refine zae rfl rfl (zas rfl gJ (ev1 rfl)) ?_
 refine zae rfl rfl (zat rfl tb3 (ev1 rfl) rfl rfl) ?_
 refine zae rfl rfl (zaj (.inl rfl) (ev1 rfl)) ?_
 refine zae rfl rfl (qC rfl (ev1 rfl) (fun s v h => by cases h; exact ⟨_, rfl⟩)) ?_
 refine zae rfl rfl (zas rfl jn (ev1 rfl)) ?_
 refine zae rfl rfl (zas rfl gK (ev1 rfl)) ?_
 refine zae rfl rfl (zat rfl tb3 (ev1 rfl) rfl rfl) ?_
 refine zae rfl rfl (jL rfl (ev1 rfl) (ev1 rfl) (fun _ => qbg _ (by omega))) ?_
 refine zae rfl rfl (zaj (.inl rfl) (ev1 rfl)) ?_
 refine ql ?_
 refine zav ?_
 refine qE ⟨hs0, rfl⟩ (α := List TL × Nat) (fun x => [(19, .val (.int .i64 (x.1.length : Int)))]) [(1, _), (4, _), (18, _)] (fun x => [(0, .mix 158 [.val (.int .i64 w), .val (.int .i64 h), .arr 2, .slf 1 (B).length ((B).flatMap uc8), .val (.int .i64 ((x.2 : Nat) : Int))]), (2, .arr 84 256 (x.1).length ((x.1).flatMap tc))]) [.hole, _, .hole] (fun x => x.1.length ≤ n ∧ x.2 ≤ B.length ∧ jk qy B (n - x.1.length) x.1 x.2 = none) (fun x => n - x.1.length) ([], p0) [0, 1, 2] (⟨qbO _, hp0, h0⟩) rfl ⟨rfl, rfl, rfl, trivial⟩ ⟨rfl, trivial⟩ ⟨rfl, rfl, rfl, trivial⟩ ?_
 intro x hx
 simp only [upd, zaf, zag, qbp, qbq]
 obtain ⟨us, p⟩ := x
 obtain ⟨hul, hp, hrd⟩ := hx
 dsimp only at hul hp hrd ⊢
 refine zai ?_
 refine za rfl (qq rfl (ev1 rfl) (ev1 rfl)) ?_
 refine zab ?_
 refine zad ?_
 refine qi rfl (fun c1 => ?_) (fun c1 => ?_)
 ·try simp only [decide_eq_true_eq, decide_eq_false_iff_not, beq_iff_eq, bne_iff_ne, beq_eq_false_iff_ne, bne_eq_false_iff_eq, qbl, qbm, qbi, qbo, qbk, ne_eq, Decidable.not_not, qbz, qbA] at c1
  have hlt : us.length < n := by omega
  refine zao ?_
  refine zad ?_
  refine zav ?_
  refine zai ?_
  refine zaa 2 rfl ?_
  refine zab ?_
  by_cases hz : zrB B p = true
  ·refine zam 1 ?_
   refine zac ?_
   refine zaa 3 rfl ?_
   refine zal rfl (zak [0, 2, 1] [] [] rfl (ev1 rfl) (ec (ev1 rfl) en) rfl rfl (xF B hB w h us (by omega) p) rfl rfl rfl rfl rfl rfl) ?_
   refine zal rfl (zak [0, 2] [] [3] rfl (ev1 rfl) (ec (ev1 rfl) en) rfl rfl (Xq B hB w h us (by omega) hi (qy us) p hp (zrB_iff.1 hz)) rfl rfl rfl rfl rfl rfl) ?_
   refine zab ?_
   refine zac ?_
   refine za rfl (qc rfl (ev1 rfl) (ev1 rfl) (fun _ => qbg _ (by omega))) ?_
   refine zaa 1 rfl ?_
   refine zab ?_
   refine ⟨(us ++ [qy us], p + 1), [0, 1, 3], ⟨by rw [qbf]; exact hlt, (zrB_iff.1 hz).1, by rw [qbf]; exact uV (n := n - us.length) (by omega) hz hrd⟩, by simp only [qbf, qbC, qbQ]; omega, rfl, ⟨by rw [qbf]; rfl, rfl, rfl, rfl, trivial⟩, ⟨rfl, rfl, rfl, trivial⟩⟩
  ·by_cases hno : ∀ l q, rdN B p = some (l, q) → kt l = qy us
   ·refine zac ?_
    refine zaa 3 rfl ?_
    refine zal rfl (zak [0, 2, 1] [] [] rfl (ev1 rfl) (ec (ev1 rfl) en) rfl rfl (xF B hB w h us (by omega) p) rfl rfl rfl rfl rfl rfl) ?_
    refine kz rfl (qQ [0, 2] [] [] rfl (ev1 rfl) (ec (ev1 rfl) en) rfl rfl ((qaq B hB w h us (by omega) hi (qy us) p hp (fun e => hz (zrB_iff.2 e)) hno).dead) rfl rfl rfl rfl rfl rfl) rfl ?_
    refine vR (Mo := [_, _]) [0, 1] rfl rfl ?_ ⟨rfl, rfl, trivial⟩ rfl
    rfl
   ·obtain ⟨l, q1, hl0, hne⟩ : ∃ l q, rdN B p = some (l, q) ∧ kt l ≠ qy us := by simpa using hno
    refine zam 1 ?_
    refine zac ?_
    refine zaa 3 rfl ?_
    refine zal rfl (zak [0, 2, 1] [] [] rfl (ev1 rfl) (ec (ev1 rfl) en) rfl rfl (xF B hB w h us (by omega) p) rfl rfl rfl rfl rfl rfl) ?_
    refine zal rfl (zak [0, 2] [] [3] rfl (ev1 rfl) (ec (ev1 rfl) en) rfl rfl (Xr B hB w h us (by omega) hi (qy us) p hp (fun e => hz (zrB_iff.2 e)) l q1 hl0 hne) rfl rfl rfl rfl rfl rfl) ?_
    refine zab ?_
    refine zac ?_
    refine za rfl (qc rfl (ev1 rfl) (ev1 rfl) (fun _ => qbg _ (by omega))) ?_
    refine zaa 1 rfl ?_
    refine zab ?_
    refine ⟨(us ++ [kt l], q1), [0, 1, 3], ⟨by rw [qbf]; exact hlt, (yq hl0).1, by rw [qbf]; exact uW (n := n - us.length) (by omega) hz hl0 hne hrd⟩, by simp only [qbf, qbC, qbQ]; omega, rfl, ⟨by rw [qbf]; rfl, rfl, rfl, rfl, trivial⟩, ⟨rfl, rfl, rfl, trivial⟩⟩
 ·have c2 : ¬ ((us.length : Int) < w * h) := by simpa using c1
  have e0 : n - us.length = 0 := by omega
  rw [e0] at hrd
  exact absurd (show some (us, p) = none from hrd) (fun e => by cases e)
end Go.Proofs.YtofklkbfkoliiaaGreat
namespace Go.Proofs.YtofklkbfkoliiaaGreat
set_option linter.unusedVariables false
set_option linter.unusedSimpArgs false
open Go.RowKit
attribute [local irreducible] kt rdP rdN ya jk
theorem Xt (w h : Int) (us : List TL) (n e : Int) : DDef Tryz.prog 96 [.loc 0 0, .loc 1 0, .loc 2 0] [.mix 24 [.val (.int .i64 w), .val (.int .i64 h), .arr 3], .flat 3 [.int .i64 n], .flat 34 [.int .i64 e], .arr 84 256 (us).length ((us).flatMap tc)] none none [.mix 24 [.val (.int .i64 w), .val (.int .i64 h), .arr 3], .flat 3 [.int .i64 n], .flat 34 [.int .i64 e], .arr 84 256 (us).length ((us).flatMap tc)] := by
 refine xn (dr := .tup []) (t := 3) (N := 6) 4 (by kernel_rfl) Tryz.func96 rfl rfl rfl (by simp only [fr0, qbh, qbj]; exact rfl) rfl rfl rfl rfl rfl fun s0 hs0 => ?_
 refine za rfl (zak [] [] [] rfl (ev1 rfl) (ec (ev1 rfl) en) rfl rfl (WI) rfl rfl rfl rfl rfl rfl) ?_
 refine zab ?_
 refine qf rfl (rfl) ?_
 refine zao ?_
 refine km [0, 1, 2, 3] (qI rfl) rfl rfl ?_ ⟨rfl, rfl, rfl, rfl, trivial⟩
 rfl
theorem uX (n e : Int) : DDef Tryz.prog 96 [.loc 0 0, .loc 1 0, .loc 2 0] [.flat 24 [.int .i64 0, .int .i64 0, .slice none 0 0], .flat 3 [.int .i64 n], .flat 34 [.int .i64 e]] (some (.ifc 181 (.val (.agg #[])))) none [.flat 24 [.int .i64 0, .int .i64 0, .slice none 0 0], .flat 3 [.int .i64 0], .flat 34 [.int .i64 200]] := by
 refine xn (dr := .tup []) (t := 3) (N := 6) 3 (by kernel_rfl) Tryz.func96 rfl rfl rfl (by simp only [fr0, qbh, qbj]; exact rfl) rfl rfl rfl rfl rfl fun s0 hs0 => ?_
 refine za rfl (zak [] [] [] rfl (ev1 rfl) (ec (ev1 rfl) en) rfl rfl (Xn) rfl rfl rfl rfl rfl rfl) ?_
 refine zab ?_
 refine qt rfl (rfl) ?_
 refine zac ?_
 refine za rfl (kH rfl Wu uv) ?_
 refine zaq rfl (qr rfl gm (ev1 rfl) (ev1 rfl) rfl rfl rfl rfl) ?_
 refine zaq rfl (qN rfl tb3 (ev1 rfl) (ev1 rfl) rfl) ?_
 refine zaq rfl (qN rfl kc (ev1 rfl) (ev1 rfl) rfl) ?_
 refine zab ?_
 refine km [0, 1, 2] (qI rfl) rfl rfl ?_ ⟨rfl, rfl, rfl, trivial⟩
 rfl
theorem rdc_y (B : List Int) (hB : B.length ≤ 4000000000000000000) (hi : isB B) (n : Nat) (h2 : 0 + 2 ≤ B.length) (hm : jV (bAt B 0) (bAt B 1) = true) (hn : bAt B 0 * bAt B 1 = (n : Int)) (ts : List TL) (q : Nat) (h0 : jk qy B n [] 2 = some (ts, q)) : DFun Tryz.prog 59 [.slf 1 (B).length ((B).flatMap uc8)] [] (.tup [.agg [.val (.int .i64 (bAt B 0)), .val (.int .i64 (bAt B 1)), .arr 0], .val (.int .i64 (q : Nat)), .val (.int .i64 0)]) [.arr 84 256 (ts).length ((ts).flatMap tc)] := by
 refine qA (N := 17) 0 (by kernel_rfl) Tryz.func59 rfl rfl rfl (by simp only [fr0, qbh, qbj]; exact rfl) rfl fun s0 hs0 => ?_
 refine qP rfl hs0 ?_
 refine zam 3 ?_
 refine zac ?_
 refine zal rfl (zan 0 rfl uv rfl) ?_
 refine zal rfl (zan 1 rfl zr3 rfl) ?_
 refine zal rfl (zan 2 rfl gB rfl) ?_
 refine zab ?_
 refine qD (l0 := [_]) rfl rfl rfl rfl rfl hs0 ?_
 refine za rfl (ki rfl en (ec (ev1 rfl) (ec (ev1 rfl) (ec (ev1 rfl) en)))) ?_
 refine zab ⟨_, _, _, 3, ev1 rfl, qbE hs0 (by decide), rfl, ?_⟩
 have hs1 : s0.M.length ≤ 3 := qbE hs0 (by decide)
 refine qO rfl hs0 ?_
 refine zad ?_
 refine zam 1 ?_
 refine zac ?_
 refine zaa 1 rfl ?_
 refine za rfl (gc (ps := [(1, .tmp 7)]) rfl VE zu (ec (ev1 rfl) en) rfl rfl rfl) ?_
 refine zal rfl (zan 3 rfl zu rfl) ?_
 refine zaq rfl (ka rfl VH (ev1 rfl) (ev1 rfl) rfl rfl rfl rfl) ?_
 refine zab ?_
 refine zai ?_
 refine zal rfl (zak [3] [] [] rfl (ev1 rfl) (ec (ev1 rfl) en) rfl rfl (YU B hB hi n h2 hm hn) rfl rfl rfl rfl rfl rfl) ?_
 refine zab ?_
 refine zad ?_
 refine zam 2 ?_
 refine zac ?_
 refine za rfl (zas rfl jn (ev1 rfl)) ?_
 refine zal rfl (zak [3] [] [4] rfl (ev1 rfl) (ec (ev1 rfl) en) rfl rfl (YV B hB hi (bAt B 0) (bAt B 1) 2) rfl rfl rfl rfl rfl rfl) ?_
 refine zal rfl (zak [3, 4] [] [5] rfl (ev1 rfl) (ec (ev1 rfl) (ec (ev1 rfl) en)) rfl rfl (He B hB hi (bAt B 0) (bAt B 1) n hm hn 2 h2 ts q h0) rfl rfl rfl rfl rfl rfl) ?_
 refine zab ?_
 refine zad ?_
 refine qh [([], []), ([3], []), ([], []), ([3], []), ([0], [0]), ([1], [1]), ([2], [2])] qJ (by kernel_rfl) ?_
 refine zae rfl rfl (zas rfl jn (ev1 rfl)) ?_
 refine zae rfl rfl (yP rfl gm (ev1 rfl) rfl rfl rfl) ?_
 refine zae rfl rfl (zas rfl ja (ev1 rfl)) ?_
 refine zae rfl rfl (zat rfl tb3 (ev1 rfl) rfl rfl) ?_
 refine jq rfl rfl (ka rfl gm (ev1 rfl) (ev1 rfl) rfl rfl rfl rfl) rfl (by simp only [upd, zaf, zag]; exact rfl) ?_
 refine jq rfl rfl (qN rfl tb3 (ev1 rfl) (ev1 rfl) rfl) rfl (by simp only [upd, zaf, zag]; exact rfl) ?_
 refine jq rfl rfl (qN rfl kc (ev1 rfl) (ev1 rfl) rfl) rfl (by simp only [upd, zaf, zag]; exact rfl) ?_
 refine ql ?_
 refine zau ?_
 refine gq (kU [0, 1, 2, 5] [] rfl rfl (Xt _ _ _ _ _) rfl rfl rfl rfl rfl) ?_
 refine km [5] (rs3 rfl (vQ gm rfl rfl rfl) (j4 tb3 rfl rfl rfl) (j4 kc rfl rfl rfl)) rfl rfl ?_ ⟨rfl, trivial⟩
 rfl
theorem qar (B : List Int) (hB : B.length ≤ 4000000000000000000) (hi : isB B) (n : Nat) (h2 : 0 + 2 ≤ B.length) (hm : jV (bAt B 0) (bAt B 1) = true) (hn : bAt B 0 * bAt B 1 = (n : Int)) (h0 : jk qy B n [] 2 = none) : DFun Tryz.prog 59 [.slf 1 (B).length ((B).flatMap uc8)] [] (.tup [.val (.agg #[.int .i64 0, .int .i64 0, .slice none 0 0]), .val (.int .i64 0), .val (.int .i64 200)]) [] := by
 refine qA (N := 17) 0 (by kernel_rfl) Tryz.func59 rfl rfl rfl (by simp only [fr0, qbh, qbj]; exact rfl) rfl fun s0 hs0 => ?_
 refine qP rfl hs0 ?_
 refine zam 3 ?_
 refine zac ?_
 refine zal rfl (zan 0 rfl uv rfl) ?_
 refine zal rfl (zan 1 rfl zr3 rfl) ?_
 refine zal rfl (zan 2 rfl gB rfl) ?_
 refine zab ?_
 refine qD (l0 := [_]) rfl rfl rfl rfl rfl hs0 ?_
 refine za rfl (ki rfl en (ec (ev1 rfl) (ec (ev1 rfl) (ec (ev1 rfl) en)))) ?_
 refine zab ⟨_, _, _, 3, ev1 rfl, qbE hs0 (by decide), rfl, ?_⟩
 have hs1 : s0.M.length ≤ 3 := qbE hs0 (by decide)
 refine qO rfl hs0 ?_
 refine zad ?_
 refine zam 1 ?_
 refine zac ?_
 refine zaa 1 rfl ?_
 refine za rfl (gc (ps := [(1, .tmp 7)]) rfl VE zu (ec (ev1 rfl) en) rfl rfl rfl) ?_
 refine zal rfl (zan 3 rfl zu rfl) ?_
 refine zaq rfl (ka rfl VH (ev1 rfl) (ev1 rfl) rfl rfl rfl rfl) ?_
 refine zab ?_
 refine zai ?_
 refine zal rfl (zak [3] [] [] rfl (ev1 rfl) (ec (ev1 rfl) en) rfl rfl (YU B hB hi n h2 hm hn) rfl rfl rfl rfl rfl rfl) ?_
 refine zab ?_
 refine zad ?_
 refine zam 1 ?_
 refine zac ?_
 refine za rfl (zas rfl jn (ev1 rfl)) ?_
 refine zal rfl (zak [3] [] [4] rfl (ev1 rfl) (ec (ev1 rfl) en) rfl rfl (YV B hB hi (bAt B 0) (bAt B 1) 2) rfl rfl rfl rfl rfl rfl) ?_
 refine kz rfl (qQ [3, 4] [] [] rfl (ev1 rfl) (ec (ev1 rfl) (ec (ev1 rfl) en)) rfl rfl ((Xs B hB hi (bAt B 0) (bAt B 1) n hm hn 2 h2 h0).dead) rfl rfl rfl rfl rfl rfl) rfl ?_
 refine gq (qZ [0, 1, 2] [] rfl rfl rfl (uX _ _) rfl rfl rfl rfl rfl) ?_
 refine qo (rs3 rfl (gy gm rfl rfl rfl) (j4 tb3 rfl rfl rfl) (j4 kc rfl rfl rfl)) rfl ?_
 rfl
theorem qas (B : List Int) (hB : B.length ≤ 4000000000000000000) (hi : isB B) (h2 : ¬ 0 + 2 ≤ B.length) : DFun Tryz.prog 59 [.slf 1 (B).length ((B).flatMap uc8)] [] (.tup [.val (.agg #[.int .i64 0, .int .i64 0, .slice none 0 0]), .val (.int .i64 0), .val (.int .i64 200)]) [] := by
 refine qA (N := 17) 0 (by kernel_rfl) Tryz.func59 rfl rfl rfl (by simp only [fr0, qbh, qbj]; exact rfl) rfl fun s0 hs0 => ?_
 refine qP rfl hs0 ?_
 refine zam 3 ?_
 refine zac ?_
 refine zal rfl (zan 0 rfl uv rfl) ?_
 refine zal rfl (zan 1 rfl zr3 rfl) ?_
 refine zal rfl (zan 2 rfl gB rfl) ?_
 refine zab ?_
 refine qD (l0 := [_]) rfl rfl rfl rfl rfl hs0 ?_
 refine za rfl (ki rfl en (ec (ev1 rfl) (ec (ev1 rfl) (ec (ev1 rfl) en)))) ?_
 refine zab ⟨_, _, _, 3, ev1 rfl, qbE hs0 (by decide), rfl, ?_⟩
 have hs1 : s0.M.length ≤ 3 := qbE hs0 (by decide)
 refine qO rfl hs0 ?_
 refine zad ?_
 refine zam 1 ?_
 refine zac ?_
 refine zaa 1 rfl ?_
 refine za rfl (gc (ps := [(1, .tmp 7)]) rfl VE zu (ec (ev1 rfl) en) rfl rfl rfl) ?_
 refine zal rfl (zan 3 rfl zu rfl) ?_
 refine zaq rfl (ka rfl VH (ev1 rfl) (ev1 rfl) rfl rfl rfl rfl) ?_
 refine zab ?_
 refine zai ?_
 refine kz rfl (qQ [3] [] [] rfl (ev1 rfl) (ec (ev1 rfl) en) rfl rfl ((Xo B hB hi h2).dead) rfl rfl rfl rfl rfl rfl) rfl ?_
 refine gq (qZ [0, 1, 2] [] rfl rfl rfl (uX _ _) rfl rfl rfl rfl rfl) ?_
 refine qo (rs3 rfl (gy gm rfl rfl rfl) (j4 tb3 rfl rfl rfl) (j4 kc rfl rfl rfl)) rfl ?_
 rfl
theorem qat (B : List Int) (hB : B.length ≤ 4000000000000000000) (hi : isB B) (h2 : 0 + 2 ≤ B.length) (hm : jV (bAt B 0) (bAt B 1) = false) : DFun Tryz.prog 59 [.slf 1 (B).length ((B).flatMap uc8)] [] (.tup [.val (.agg #[.int .i64 0, .int .i64 0, .slice none 0 0]), .val (.int .i64 0), .val (.int .i64 200)]) [] := by
 refine qA (N := 17) 0 (by kernel_rfl) Tryz.func59 rfl rfl rfl (by simp only [fr0, qbh, qbj]; exact rfl) rfl fun s0 hs0 => ?_
 refine qP rfl hs0 ?_
 refine zam 3 ?_
 refine zac ?_
 refine zal rfl (zan 0 rfl uv rfl) ?_
 refine zal rfl (zan 1 rfl zr3 rfl) ?_
 refine zal rfl (zan 2 rfl gB rfl) ?_
 refine zab ?_
 refine qD (l0 := [_]) rfl rfl rfl rfl rfl hs0 ?_
 refine za rfl (ki rfl en (ec (ev1 rfl) (ec (ev1 rfl) (ec (ev1 rfl) en)))) ?_
 refine zab ⟨_, _, _, 3, ev1 rfl, qbE hs0 (by decide), rfl, ?_⟩
 have hs1 : s0.M.length ≤ 3 := qbE hs0 (by decide)
 refine qO rfl hs0 ?_
 refine zad ?_
 refine zam 1 ?_
 refine zac ?_
 refine zaa 1 rfl ?_
 refine za rfl (gc (ps := [(1, .tmp 7)]) rfl VE zu (ec (ev1 rfl) en) rfl rfl rfl) ?_
 refine zal rfl (zan 3 rfl zu rfl) ?_
 refine zaq rfl (ka rfl VH (ev1 rfl) (ev1 rfl) rfl rfl rfl rfl) ?_
 refine zab ?_
 refine zai ?_
 refine kz rfl (qQ [3] [] [] rfl (ev1 rfl) (ec (ev1 rfl) en) rfl rfl ((Xp B hB hi h2 hm).dead) rfl rfl rfl rfl rfl rfl) rfl ?_
 refine gq (qZ [0, 1, 2] [] rfl rfl rfl (uX _ _) rfl rfl rfl rfl rfl) ?_
 refine qo (rs3 rfl (gy gm rfl rfl rfl) (j4 tb3 rfl rfl rfl) (j4 kc rfl rfl rfl)) rfl ?_
 rfl
theorem zd {w h : Int} {ts : List TL} (hr : kR w h ts = true) : jV w h = true := by
 unfold kR at hr
 rw [qbi] at hr
 exact hr.1
end Go.Proofs.YtofklkbfkoliiaaGreat
namespace Go.Proofs.YtofklkbfkoliiaaGreat
set_option linter.unusedVariables false
set_option linter.unusedSimpArgs false
open Go.RowKit
attribute [local irreducible] qX kI jK kA qM
def vj (t u : TL) : List Int := if t = u then [0] else kA t
theorem KT (kn : List TL → TL) : ∀ (a acc b : List TL), qM kn acc (a ++ b) = qM kn acc a ++ qM kn (acc ++ a) b
 | [], acc, b => by rw [qbq, qbV, qM, qbq]
 | t :: a, acc, b => by
  rw [qbp, qM, qM, KT kn a (acc ++ [t]) b, qbM, qbM]
  rfl
theorem wW (kn : List TL → TL) {ts : List TL} {k : Nat} (hk : k < ts.length) : qM kn [] (ts.take (k + 1)) = qM kn [] (ts.take k) ++ vj ts[k] (kn (ts.take k)) := by
 rw [qbK hk, KT, qbq]
 congr 1
 rw [qM, qM, qbV]
 rfl
theorem ze (t : TL) : (kA t).length ≤ 320 := by
 have h1 := wR t.l
 have h2 := t.h
 unfold kA
 rw [uU]
 omega
theorem WL (t u : TL) : (vj t u).length ≤ 320 := by
 unfold vj
 split
 ·simp
 ·exact ze t
theorem wn (kn : List TL → TL) : ∀ (ts acc : List TL), (qM kn acc ts).length ≤ ts.length * 320
 | [], _ => by rw [qM]; simp
 | t :: ts, acc => by
  have h1 := wn kn ts (acc ++ [t])
  have h2 := WL t (kn acc)
  unfold vj at h2
  rw [qM, qbf, qbC]
  omega
theorem wo (kn : List TL → TL) (acc : List TL) : qM kn acc [] = [] := by rw [qM]
theorem VM (out b : List Int) : out.flatMap uc8 ++ b.flatMap uc8 = (out ++ b).flatMap uc8 := by rw [List.flatMap_append]
theorem Hf (a b : Int) (old : List TL) (k : Nat) (hk : k ≤ old.length) (hl : old.length ≤ 5000) (out : List Int) (hout : out.length ≤ 100000) (t : TL) : DFun Tryz.prog 110 [.arr 0, .val (.int .i64 (k : Int)), tD t, .loc 1 0] [.arr 5 1 (out).length ((out).flatMap uc8), .mix 144 [.fn (.func 112) [] [.loc 2 0]], .mix 146 [.loc 3 0], .mix 24 [.val (.int .i64 a), .val (.int .i64 b), .slf 256 old.length (old.flatMap tc)]] (.arr 4) [.gone, .mix 144 [.fn (.func 112) [] [.loc 2 0]], .mix 146 [.loc 3 0], .mix 24 [.val (.int .i64 a), .val (.int .i64 b), .slf 256 old.length (old.flatMap tc)], .arr 5 1 ((out ++ vj t (qy (old.take k)))).length (((out ++ vj t (qy (old.take k)))).flatMap uc8)] := by
 have htl := ze t
 refine zap (N := 20) 4 (by kernel_rfl) Tryz.func110 rfl rfl rfl (by simp only [fr0, qbh, qbj]; exact rfl) rfl fun s0 hs0 => ?_
 refine Yo (i := 0) rfl fun hl0 hL0 => ?_
 refine zad ?_
 refine zam 1 ?_
 refine zac ?_
 refine zal rfl (j8 4 rfl (ev1 rfl) rfl) ?_
 refine zaa 1 rfl ?_
 refine zab ?_
 refine zad ?_
 refine zad ?_
 refine qh [([4], []), ([1], []), ([], []), ([2, 3], [2, 3]), ([], [])] qJ (by kernel_rfl) ?_
 refine zae rfl rfl (qL rfl qS (ev1 rfl) rfl (qb _)) ?_
 refine zae rfl rfl (zat rfl tb144 (ev1 rfl) rfl rfl) ?_
 refine zae rfl rfl (zaj (.inl rfl) (ev1 rfl)) ?_
 refine gg rfl rfl (zak [2, 3] [] [] rfl (ev1 rfl) (ec (ev1 rfl) en) rfl rfl (Hc a b old k hk hl) rfl rfl rfl rfl rfl rfl) rfl (by simp only [upd, zaf, zag]; exact rfl) ?_
 refine zae rfl rfl (jY xA rfl xB qS (ev1 rfl) (ev1 rfl)) ?_
 refine ql ?_
 refine qi rfl (fun c1 => ?_) (fun c1 => ?_)
 ·have c2 : t = (qy (old.take k)) := by simpa using c1
  refine zad ?_
  refine zam 2 ?_
  refine zac ?_
  refine zaa 1 rfl ?_
  refine zal rfl (gj (ps := [(0, .const (.int .u8 0))]) 5 rfl qg zr5 rfl (vc (ev1 rfl) vn) rfl (by decide) (by decide) rfl) ?_
  refine zal rfl (jd (j := 6) rfl qg zr5 rfl (ev1 rfl) (ev1 rfl) (ga rfl) rfl rfl (fun _ => rfl) (fun _ => ⟨by omega, by omega⟩)) ?_
  refine zaa 1 rfl ?_
  refine zab ?_
  refine zau ?_
  refine km [0, 1, 2, 3, 6] (rs1 rfl (qB rfl)) rfl rfl ?_ ⟨rfl, rfl, rfl, rfl, jm (by unfold vj; rw [if_pos c2, qbf]; rfl) (by unfold vj; rw [if_pos c2, ← VM]; rfl), trivial⟩
  rfl
 ·have c2 : t ≠ (qy (old.take k)) := by simpa using c1
  refine zao ?_
  refine zad ?_
  refine zam 1 ?_
  refine zac ?_
  refine zaa 1 rfl ?_
  refine za rfl (qL rfl qS (ev1 rfl) rfl (qb _)) ?_
  refine za rfl (zak [] [] [] rfl (ev1 rfl) (ec (ev1 rfl) en) rfl rfl (Z8 t) rfl rfl rfl rfl rfl rfl) ?_
  refine zal rfl (jd (j := 5) rfl qg zr5 rfl (ev1 rfl) (ev1 rfl) j9 rfl rfl (fun _ => jF (fun _ => rfl) _) (fun _ => ⟨by omega, by omega⟩)) ?_
  refine zaa 1 rfl ?_
  refine zab ?_
  refine zau ?_
  refine km [0, 1, 2, 3, 5] (rs1 rfl (qB rfl)) rfl rfl ?_ ⟨rfl, rfl, rfl, rfl, jm (by unfold vj; rw [if_neg c2, qbf]) (by unfold vj; rw [if_neg c2, ← VM]), trivial⟩
  rfl
theorem qau (a b : Int) (old : List TL) (hl : old.length ≤ 100)  : DFun Tryz.prog 109 [.slf 256 old.length (old.flatMap tc), .arr 0, .fn (.func 110) [] [.loc 1 0]] [.arr 5 1 (([a, b] : List Int)).length ((([a, b] : List Int)).flatMap uc8), .mix 144 [.fn (.func 112) [] [.loc 2 0]], .mix 146 [.loc 3 0], .mix 24 [.val (.int .i64 a), .val (.int .i64 b), .slf 256 old.length (old.flatMap tc)]] (.arr 4) [.gone, .mix 144 [.fn (.func 112) [] [.loc 2 0]], .mix 146 [.loc 3 0], .mix 24 [.val (.int .i64 a), .val (.int .i64 b), .slf 256 old.length (old.flatMap tc)], .arr 5 1 (([a, b] ++ qM qy [] old)).length ((([a, b] ++ qM qy [] old)).flatMap uc8)] := by
 refine zap (N := 23) 4 (by kernel_rfl) Tryz.func109 rfl rfl rfl (by simp only [fr0, qbh, qbj]; exact rfl) rfl fun s0 hs0 => ?_
 refine ko (t := 0) rfl fun hl0 hL0 => ?_
 refine Yo (i := 0) rfl fun hl1 hL1 => ?_
 refine zai ?_
 refine zaa 1 rfl ?_
 refine zab ?_
 refine zad ?_
 refine zad ?_
 refine A8 1 rfl rfl rfl (by simp only [qbp, qbq, zaf, zag]; exact rfl) ?_
 refine zac ?_
 refine zaa 1 rfl ?_
 refine za rfl (qm rfl jo (ev1 rfl)) ?_
 refine zaa 1 rfl ?_
 refine zab ?_
 refine zav ?_
 refine qE ⟨hs0, rfl⟩ (α := Nat) (fun k => [(11, .val (.int .i64 (k : Int)))]) [(1, _), (2, _), (9, _), (10, _)] (fun k => [(4, .arr 5 1 (([a, b] ++ qM qy [] (old.take (k)))).length ((([a, b] ++ qM qy [] (old.take (k)))).flatMap uc8))]) [_, _, _, _, .hole] (fun k => k ≤ old.length) (fun k => old.length - k) 0 [0, 1, 2, 3, 4] (qbO _) rfl ⟨rfl, rfl, rfl, rfl, trivial⟩ ⟨rfl, trivial⟩ ⟨rfl, rfl, rfl, rfl, by rw [List.take_zero, wo]; rfl, trivial⟩ ?_
 intro k hx
 simp only [upd, zaf, zag, qbp, qbq]
 have hk0 := hx
 have hbl := wn qy (old.take k) []
 rw [qbD] at hbl
 refine zai ?_
 refine za rfl (qq rfl (ev1 rfl) (ev1 rfl)) ?_
 refine zab ?_
 refine zad ?_
 refine qi rfl (fun c1 => ?_) (fun c1 => ?_)
 ·try simp only [decide_eq_true_eq, decide_eq_false_iff_not, beq_iff_eq, bne_iff_ne, beq_eq_false_iff_ne, bne_eq_false_iff_eq, qbl, qbm, qbi, qbo, qbk, ne_eq, Decidable.not_not, qbz, qbA] at c1
  refine zao ?_
  refine zad ?_
  refine zav ?_
  refine zad ?_
  have hk : k < old.length := by omega
  refine zam 1 ?_
  refine zac ?_
  refine zaa 1 rfl ?_
  refine za rfl (qu (j := k) rfl jo (ev1 rfl) (ev1 rfl) qb (by decide) (by omega) (by omega)) ?_
  refine za rfl (vr rfl qS (ev1 rfl) (qb _)) ?_
  refine zal rfl (zan 5 rfl kN rfl) ?_
  refine zaa 1 rfl ?_
  refine zaq rfl (qr rfl qS (ev1 rfl) (ev1 rfl) rfl (qb _) (k7 _) ((qb _).trans (qb _).symm)) ?_
  refine zab ?_
  refine zam 1 ?_
  refine zac ?_
  refine zaa 3 rfl ?_
  refine za rfl (qL rfl qS (ev1 rfl) rfl (qb _)) ?_
  refine zal rfl (zak [4, 1, 2, 3] [] [6] rfl (ev1 rfl) (ec (ev1 rfl) (ec (ev1 rfl) (ec (ev1 rfl) en))) rfl rfl (Hf a b old k (by omega) (by omega) ([a, b] ++ qM qy [] (old.take (k))) (by simp only [qbf, qbC, qbQ]; omega) _) rfl rfl rfl rfl rfl rfl) ?_
  refine zaa 1 rfl ?_
  refine zab ?_
  refine zac ?_
  refine za rfl (qc rfl (ev1 rfl) (ev1 rfl) (fun _ => qbg _ (by omega))) ?_
  refine zaa 1 rfl ?_
  refine zab ?_
  refine ⟨k + 1, [0, 1, 2, 3, 6], by omega, by simp only []; omega, rfl, ⟨rfl, rfl, rfl, rfl, rfl, trivial⟩, ⟨rfl, rfl, rfl, rfl, jm (by rw [wW _ hk]; rfl) (by rw [wW _ hk]; rfl), trivial⟩⟩
 ·try simp only [decide_eq_true_eq, decide_eq_false_iff_not, beq_iff_eq, bne_iff_ne, beq_eq_false_iff_ne, bne_eq_false_iff_eq, qbl, qbm, qbi, qbo, qbk, ne_eq, Decidable.not_not, qbz, qbA] at c1
  refine qz ?_
  refine zai ?_
  refine zaa 2 rfl ?_
  refine zab ?_
  refine zau ?_
  have hke : old.take k = old := qbJ (by omega)
  refine km [0, 1, 2, 3, 4] (rs1 rfl (qB rfl)) rfl rfl ?_ ⟨rfl, rfl, rfl, rfl, jm (by rw [hke]) (by rw [hke]), trivial⟩
  rfl
end Go.Proofs.YtofklkbfkoliiaaGreat
namespace Go.Proofs.YtofklkbfkoliiaaGreat
set_option linter.unusedVariables false
set_option linter.unusedSimpArgs false
open Go.RowKit
attribute [local irreducible] qX kI jK kA qM
theorem qav (a b : Int) (old : List TL) (hm : jV a b = true) (hl : old.length ≤ 100) : DFun Tryz.prog 87 [.agg [.val (.int .i64 a), .val (.int .i64 b), .slf 256 old.length (old.flatMap tc)], .fn (.func 112) [] [.loc 0 0]] [.mix 146 [.loc 1 0], .mix 24 [.val (.int .i64 a), .val (.int .i64 b), .slf 256 old.length (old.flatMap tc)]] (.arr 2) [.mix 146 [.loc 1 0], .mix 24 [.val (.int .i64 a), .val (.int .i64 b), .slf 256 old.length (old.flatMap tc)], .arr 5 1 ((a :: b :: qM qy [] old)).length (((a :: b :: qM qy [] old)).flatMap uc8)] := by
 have hb := KH hm
 refine zap (N := 16) 2 (by kernel_rfl) Tryz.func87 rfl rfl rfl (by simp only [fr0, qbh, qbj]; exact rfl) rfl fun s0 hs0 => ?_
 refine zad ?_
 refine zam 2 ?_
 refine zac ?_
 refine zal rfl (qp 2 rfl (ev1 rfl) rfl) ?_
 refine zal rfl (gW 3 rfl (ev1 rfl) (fun s v h => by cases h <;> rfl) rfl) ?_
 refine zaa 1 rfl ?_
 refine zab ?_
 refine zad ?_
 refine zam 2 ?_
 refine zac ?_
 refine za rfl (zas rfl jR (ev1 rfl)) ?_
 refine za rfl (zat rfl vS (ev1 rfl) rfl rfl) ?_
 refine za rfl (zas rfl gJ (ev1 rfl)) ?_
 refine za rfl (zat rfl tb3 (ev1 rfl) rfl rfl) ?_
 refine za rfl (qU ty3 kn5 rfl (ev1 rfl) (fun _ => IntWalk.u8_in _ (by omega))) ?_
 refine za rfl (zas rfl gK (ev1 rfl)) ?_
 refine za rfl (zat rfl tb3 (ev1 rfl) rfl rfl) ?_
 refine za rfl (qU ty3 kn5 rfl (ev1 rfl) (fun _ => IntWalk.u8_in _ (by omega))) ?_
 refine zal rfl (gj (ps := [(0, .tmp 9), (1, .tmp 12)]) 4 rfl qg zr5 rfl (vc (ev1 rfl) (vc (ev1 rfl) vn)) rfl (by decide) (by decide) rfl) ?_
 refine za rfl (ki rfl en (ec (ev1 rfl) en)) ?_
 refine zal rfl (zak [4, 3, 0, 1] [] [5] rfl (ev1 rfl) (ec (ev1 rfl) (ec (ev1 rfl) (ec (ev1 rfl) en))) rfl rfl (qau a b old hl) rfl rfl rfl rfl rfl rfl) ?_
 refine zaa 1 rfl ?_
 refine zab ?_
 refine zau ?_
 refine km [0, 1, 5] (rs1 rfl (qB rfl)) rfl rfl ?_ ⟨rfl, rfl, rfl, trivial⟩
 rfl
theorem cnv_y (a b : Int) (old : List TL) (hr : kR a b old = true) (hl : old.length ≤ 100) : DFun Tryz.prog 51 [.agg [.val (.int .i64 a), .val (.int .i64 b), .slf 256 old.length (old.flatMap tc)]] [] (.tup [.arr 0, .val (.int .i64 0)]) [.arr 5 1 ((qT a b old)).length (((qT a b old)).flatMap uc8)] := by
 have hm := zd hr
 refine zap (N := 13) 0 (by kernel_rfl) Tryz.func51 rfl rfl rfl (by simp only [fr0, qbh, qbj]; exact rfl) rfl fun s0 hs0 => ?_
 refine zad ?_
 refine zam 1 ?_
 refine zac ?_
 refine zal rfl (qp 0 rfl (ev1 rfl) rfl) ?_
 refine zaa 2 rfl ?_
 refine zab ?_
 refine zad ?_
 refine zai ?_
 refine za rfl (qe rfl gm (ev1 rfl) rfl rfl) ?_
 refine za rfl (zak [] [] [] rfl (ev1 rfl) (ec (ev1 rfl) en) rfl rfl (YJ a b old) rfl rfl rfl rfl rfl rfl) ?_
 refine zaa 1 rfl ?_
 refine zab ?_
 refine zai ?_
 refine zaa 1 rfl ?_
 refine za rfl (qV rfl (ev1 rfl) (ev1 rfl)) ?_
 refine zab ?_
 refine qf rfl (by rw [hr]; rfl) ?_
 refine zao ?_
 refine zad ?_
 refine zam 2 ?_
 refine Wf [0] 1 [0] [.mix 24 [.val (.int .i64 a), .val (.int .i64 b), .slf 256 old.length (old.flatMap tc)], .mix 146 [.loc 0 0], .hole] [([0], []), ([0, 1], [0, 1]), ([1, 0, 2], [1, 0, 2]), ([], []), ([], [])] rfl qJ (by kernel_rfl) ?_
 refine AZ rfl rfl rfl rfl (qe rfl gm (ev1 rfl) rfl rfl) (qe rfl gm (ev1 rfl) rfl rfl) (qe rfl gm (ev1 rfl) rfl rfl) ?_
 refine A0 rfl rfl rfl (zak [0] [] [1] rfl (ev1 rfl) (ec (ev1 rfl) en) rfl rfl (Hd a b old) rfl rfl rfl rfl rfl rfl) rfl (by simp only [upd, zaf, zag]; exact rfl) (by simp only [List.mem_cons, List.not_mem_nil, or_false]; rintro x rfl; rfl) ?_
 refine AY rfl rfl rfl (zak [1, 0] [] [2] rfl (ev1 rfl) (ec (ev1 rfl) (ec (ev1 rfl) en)) rfl rfl (qav a b old hm hl) rfl rfl rfl rfl rfl rfl) rfl (by simp only [upd, zaf, zag]; exact rfl) ?_
 refine UB rfl rfl rfl (zaj (.inr rfl) (ev1 rfl)) ?_
 refine UB rfl rfl rfl (zaj (.inr rfl) (ev1 rfl)) ?_
 refine UC ?_
 refine zau ?_
 refine km [2] (rs2 rfl (qB rfl) (qB rfl)) rfl rfl ?_ ⟨rfl, trivial⟩
 rfl
end Go.Proofs.YtofklkbfkoliiaaGreat
namespace Go.Proofs.YtofklkbfkoliiaaGreat
set_option linter.unusedVariables false
set_option linter.unusedSimpArgs false
open Go.RowKit
section
variable {P : Program} {pc : Bool} {o : Oper} {F : Fr} {M : List Blk}
end
section
variable {P : Program} {s0 : St} {n : Cx}
theorem yR {co : Code} {F : Fr} {M M' : List Blk} {K : Cont} {k k' : Blk} (i : Nat) (h : k = k') (hi : M[i]? = some k) (hM : M.set i k' = M') (hw : dwp P s0 n co F M' K) : dwp P s0 n co F M K := by
 subst h hM
 obtain ⟨hl, he⟩ := qbd.1 hi
 rw [← he, List.set_getElem_self] at hw
 exact hw
end
end Go.Proofs.YtofklkbfkoliiaaGreat
namespace Go.Proofs.YtofklkbfkoliiaaGreat
set_option linter.unusedVariables false
set_option linter.unusedSimpArgs false
open Go.RowKit
attribute [local irreducible] kt rdP rdN ya jk qX kI jK kA qM qT
theorem cnv_f (a b : Int) (old : List TL) (hr : kR a b old = true) (hl : old.length ≤ 100) : DFun Tryz.prog 51 [.agg [.val (.int .i64 a), .val (.int .i64 b), .slf 256 old.length (old.flatMap tc)]] [] (.tup [.slf 1 ((qT a b old)).length (((qT a b old)).flatMap uc8), .val (.int .i64 0)]) [] := gz (cnv_y a b old hr hl) rfl
theorem Am (B : List Int) (hB : B.length ≤ 4000000000000000000) (hi : isB B) (n : Nat) (h2 : 0 + 2 ≤ B.length) (hm : jV (bAt B 0) (bAt B 1) = true) (hn : bAt B 0 * bAt B 1 = (n : Int)) (ts : List TL) (q : Nat) (h0 : jk qy B n [] 2 = some (ts, q)) : DFun Tryz.prog 59 [.slf 1 (B).length ((B).flatMap uc8)] [] (.tup [.agg [.val (.int .i64 (bAt B 0)), .val (.int .i64 (bAt B 1)), .slf 256 ts.length (ts.flatMap tc)], .val (.int .i64 (q : Nat)), .val (.int .i64 0)]) [] := gz (rdc_y B hB hi n h2 hm hn ts q h0) rfl
theorem wp (l r : List Int) : DFun Tryz.prog 15 [.slf 1 l.length (l.flatMap uc8), .slf 1 r.length (r.flatMap uc8)] [] (.val (.bool (decide (l = r)))) [] := by
 refine zap (N := 26) 0 (by kernel_rfl) Tryz.func15 rfl rfl rfl (by simp only [fr0, qbh, qbj]; exact rfl) rfl fun s0 hs0 => ?_
 refine ko (t := 0) rfl fun hl0 hL0 => ?_
 refine ko (t := 1) rfl fun hl1 hL1 => ?_
 refine zai ?_
 refine zaa 1 rfl ?_
 refine zab ?_
 refine zad ?_
 refine zai ?_
 refine zaa 1 rfl ?_
 refine za rfl (qm rfl qg (ev1 rfl)) ?_
 refine zaa 1 rfl ?_
 refine za rfl (qm rfl qg (ev1 rfl)) ?_
 refine za rfl (qV rfl (ev1 rfl) (ev1 rfl)) ?_
 refine zab ?_
 refine qi rfl (fun c1 => ?_) (fun c1 => ?_)
 ·try simp only [decide_eq_true_eq, decide_eq_false_iff_not, beq_iff_eq, bne_iff_ne, beq_eq_false_iff_ne, bne_eq_false_iff_eq, qbl, qbm, qbi, qbo, qbk, ne_eq, Decidable.not_not, qbz, qbA] at c1
  refine zai ?_
  refine zaa 1 rfl ?_
  refine zab ?_
  refine zau ?_
  refine qo (rs1 rfl (qB rfl)) rfl ?_
  have hne : l ≠ r := fun e => by subst e; exact c1 rfl
  rw [decide_eq_false hne]
 ·try simp only [decide_eq_true_eq, decide_eq_false_iff_not, beq_iff_eq, bne_iff_ne, beq_eq_false_iff_ne, bne_eq_false_iff_eq, qbl, qbm, qbi, qbo, qbk, ne_eq, Decidable.not_not, qbz, qbA] at c1
  have hlen : l.length = r.length := by omega
  refine zao ?_
  refine zad ?_
  refine zai ?_
  refine zaa 1 rfl ?_
  refine za rfl (qm rfl qg (ev1 rfl)) ?_
  refine zaa 1 rfl ?_
  refine zab ?_
  refine zav ?_
  refine qE ⟨hs0, rfl⟩ (α := Nat) (fun k => [(13, .val (.int .i64 (k : Int)))]) [(0, _), (1, _), (12, _)] (fun k => []) [] (fun k => k ≤ l.length ∧ l.take k = r.take k) (fun k => l.length - k) 0 [] (by simp) rfl ⟨rfl, rfl, rfl, trivial⟩ ⟨rfl, trivial⟩ trivial ?_
  intro k hx
  simp only [upd, zaf, zag, qbp, qbq]
  obtain ⟨hk, he⟩ := hx
  refine zai ?_
  refine za rfl (qq rfl (ev1 rfl) (ev1 rfl)) ?_
  refine zab ?_
  refine zad ?_
  refine qi rfl (fun c2 => ?_) (fun c2 => ?_)
  ·try simp only [decide_eq_true_eq, decide_eq_false_iff_not, beq_iff_eq, bne_iff_ne, beq_eq_false_iff_ne, bne_eq_false_iff_eq, qbl, qbm, qbi, qbo, qbk, ne_eq, Decidable.not_not, qbz, qbA] at c2
   refine zao ?_
   refine zad ?_
   refine zav ?_
   refine zai ?_
   refine zaa 2 rfl ?_
   refine zab ?_
   refine zad ?_
   refine qh [([], []), ([], []), ([], []), ([], []), ([], []), ([], []), ([], []), ([], []), ([], [])] qJ (by kernel_rfl) ?_
   refine zae rfl rfl (zaj (.inl rfl) (ev1 rfl)) ?_
   refine zae rfl rfl (zaj (.inl rfl) (ev1 rfl)) ?_
   refine zae rfl rfl (qu (j := k) rfl qg (ev1 rfl) (ev1 rfl) (fun _ => rfl) (by decide) (by omega) (by omega)) ?_
   refine zae rfl rfl (qk rfl tb5 (ev1 rfl) rfl) ?_
   refine zae rfl rfl (zaj (.inl rfl) (ev1 rfl)) ?_
   refine zae rfl rfl (zaj (.inl rfl) (ev1 rfl)) ?_
   refine zae rfl rfl (qu (j := k) rfl qg (ev1 rfl) (ev1 rfl) (fun _ => rfl) (by decide) (by omega) (by omega)) ?_
   refine zae rfl rfl (qk rfl tb5 (ev1 rfl) rfl) ?_
   refine zae rfl rfl (qV rfl (ev1 rfl) (ev1 rfl)) ?_
   refine ql ?_
   refine qi rfl (fun c2 => ?_) (fun c2 => ?_)
   ·have c3 : l[k] ≠ r[k] := by simpa using c2
    refine zai ?_
    refine zaa 1 rfl ?_
    refine zab ?_
    refine zau ?_
    refine qo (rs1 rfl (qB rfl)) rfl ?_
    have hne : l ≠ r := fun e => by subst e; exact c3 rfl
    rw [decide_eq_false hne]
   ·have c3 : l[k] = r[k] := by simpa using c2
    refine zao ?_
    refine zac ?_
    refine za rfl (qc rfl (ev1 rfl) (ev1 rfl) (fun _ => qbg _ (by omega))) ?_
    refine zaa 1 rfl ?_
    refine zab ?_
    refine ⟨k + 1, [], ⟨by omega, by rw [qbK (by omega), qbK (by omega), he, c3]⟩, by simp only []; omega, rfl, ⟨rfl, rfl, rfl, rfl, trivial⟩, trivial⟩
  ·try simp only [decide_eq_true_eq, decide_eq_false_iff_not, beq_iff_eq, bne_iff_ne, beq_eq_false_iff_ne, bne_eq_false_iff_eq, qbl, qbm, qbi, qbo, qbk, ne_eq, Decidable.not_not, qbz, qbA] at c2
   refine qz ?_
   refine zai ?_
   refine zaa 1 rfl ?_
   refine zab ?_
   refine zau ?_
   refine qo (rs1 rfl (qB rfl)) rfl ?_
   have e : l = r := by
    have h := he
    rw [qbJ (by omega), qbJ (by omega)] at h
    exact h
   rw [decide_eq_true e]
theorem Xu (l : List Int) (h : l.length ≤ 2000000) : DFun Tryz.prog 16 [.slf 1 l.length (l.flatMap uc8)] [] (.arr 0) [.arr 5 1 l.length (l.flatMap uc8)] := by
 refine zap (N := 8) 0 (by kernel_rfl) Tryz.func16 rfl rfl rfl (by simp only [fr0, qbh, qbj]; exact rfl) rfl fun s0 hs0 => ?_
 refine ko (t := 0) rfl fun hl0 hL0 => ?_
 refine zai ?_
 refine zaa 1 rfl ?_
 refine zab ?_
 refine zad ?_
 refine zai ?_
 refine zaa 1 rfl ?_
 refine Jx rfl rfl rfl rfl qg (ev1 rfl) fun nb4 hnb4 => ?_
 refine zab ?_
 refine qi rfl (fun c1 => ?_) (fun c1 => ?_)
 ·try simp only [decide_eq_true_eq, decide_eq_false_iff_not, beq_iff_eq, bne_iff_ne, beq_eq_false_iff_ne, bne_eq_false_iff_eq, qbl, qbm, qbi, qbo, qbk, ne_eq, Decidable.not_not, qbz, qbA] at c1
  refine zai ?_
  refine zaa 1 rfl ?_
  refine zab ?_
  refine gP 2 5 1 rfl rfl rfl ?_
  refine zau ?_
  refine km [0] (rs1 rfl (qB rfl)) rfl rfl ?_ ⟨?_, trivial⟩
  rfl
  exact (by obtain ⟨h1, h2⟩ := hnb4 c1; simp_all [MFits, vwB])
 ·try simp only [decide_eq_true_eq, decide_eq_false_iff_not, beq_iff_eq, bne_iff_ne, beq_eq_false_iff_ne, bne_eq_false_iff_eq, qbl, qbm, qbi, qbo, qbk, ne_eq, Decidable.not_not, qbz, qbA] at c1
  refine zao ?_
  refine zad ?_
  refine zam 2 ?_
  refine zac ?_
  refine zal rfl (gj (ps := []) 0 rfl qg zr5 rfl vn rfl (by decide) (by decide) rfl) ?_
  refine zaa 1 rfl ?_
  refine zal rfl (jd (j := 1) rfl qg zr5 rfl (ev1 rfl) (ev1 rfl) j9 rfl rfl (fun _ => jF (fun _ => rfl) l) (fun _ => ⟨by omega, by omega⟩)) ?_
  refine zaa 1 rfl ?_
  refine zab ?_
  refine zau ?_
  refine km [1] (rs1 rfl (qB rfl)) rfl rfl ?_ ⟨?_, trivial⟩
  rfl
  simp [vwB]
theorem gC (l : List Int) (h : l.length ≤ 2000000) : DFun Tryz.prog 16 [.slf 1 l.length (l.flatMap uc8)] [] (.slf 1 l.length (l.flatMap uc8)) [] := gz (Xu l h) rfl
theorem uY {α : Type} (l : List α) (n : Nat) : l.take (min l.length n) = l.take n := by
 rcases Nat.le_total l.length n with h | h
 ·rw [Nat.min_eq_left h, List.take_length, qbJ h]
 ·rw [Nat.min_eq_right h]
end Go.Proofs.YtofklkbfkoliiaaGreat
namespace Go.Proofs.YtofklkbfkoliiaaGreat
set_option linter.unusedVariables false
set_option linter.unusedSimpArgs false
open Go.RowKit
theorem VN (l : List Int) (h : l.length ≤ 1048576) : DFun Tryz.prog 116 [.slf 1 (l).length ((l).flatMap uc8)] [] (.tup [.loc 0 0, .val (.int .i64 0)]) [.mix 206 [.slf 1 (l).length ((l).flatMap uc8), .val (.int .i64 0)]] := by
 refine zap (N := 12) 0 (by kernel_rfl) Tryz.func116 rfl rfl rfl (by simp only [fr0, qbh, qbj]; exact rfl) rfl fun s0 hs0 => ?_
 refine ko (t := 0) rfl fun hl0 hL0 => ?_
 refine zai ?_
 refine zaa 2 rfl ?_
 refine zab ?_
 refine zad ?_
 refine zai ?_
 refine zaa 1 rfl ?_
 refine za rfl (qm rfl qg (ev1 rfl)) ?_
 refine za rfl (kg rfl (ev1 rfl) (ev1 rfl)) ?_
 refine zab ?_
 refine qf rfl (decide_eq_false (by omega)) ?_
 refine zao ?_
 refine zad ?_
 refine zam 1 ?_
 refine zac ?_
 refine zaa 1 rfl ?_
 refine za rfl (zak [] [] [] rfl (ev1 rfl) (ec (ev1 rfl) en) rfl rfl (gC _ (by omega)) rfl rfl rfl rfl rfl rfl) ?_
 refine za rfl (Gz rfl UY YH (ev1 rfl) rfl) ?_
 refine za rfl (Vi rfl (ev1 rfl) fl206 zr206 rfl) ?_
 refine zal rfl (qp 0 rfl (ev1 rfl) rfl) ?_
 refine zaa 2 rfl ?_
 refine zab ?_
 refine zau ?_
 refine km [0] (rs2 rfl (qB rfl) (qB rfl)) rfl rfl ?_ ⟨rfl, trivial⟩
 rfl
theorem QT (l : List Int) (e : Int) : DDef Tryz.prog 140 [.loc 0 0] [.mix 174 [.loc 1 0], .mix 206 [.slf 1 (l).length ((l).flatMap uc8), .val (.int .i64 e)]] none none [.mix 174 [.loc 1 0], .mix 206 [.slf 1 (l).length ((l).flatMap uc8), .val (.int .i64 0)]] := by
 refine Yv (dr := .tup []) (t := 2) (N := 7) 2 1 [[0, 1, 2, 3, 4, 5, 6], [1, 0, 2, 3, 4, 5, 6], [1, 2, 0, 3, 4, 5, 6]] qJ (by kernel_rfl) Tryz.func140 rfl rfl rfl (by simp only [fr0, qbh, qbj]; exact rfl) rfl rfl (by kernel_rfl) rfl rfl rfl rfl fun s0 hs0 L hL => ?_
 simp only [List.mem_cons, List.not_mem_nil, or_false] at hL
 rcases hL with rfl | rfl | rfl
 ·refine ⟨[0], [2, 3, 4, 5, 6], rfl, ?_⟩
  refine za rfl (zat rfl gA (ev1 rfl) rfl rfl) ?_
  refine zab ?_
  refine za rfl (zak [] [] [] rfl (ev1 rfl) (ec (ev1 rfl) en) rfl rfl (vU) rfl rfl rfl rfl rfl rfl) ?_
  refine za rfl (qC rfl (ev1 rfl) (fun s v h => by cases h; exact ⟨_, rfl⟩)) ?_
  refine za rfl (zas rfl gH (ev1 rfl)) ?_
  refine za rfl (zas rfl yQ (ev1 rfl)) ?_
  refine zaq rfl (kQ rfl kc (ev1 rfl) (ev1 rfl) (fun s v h => by cases h <;> exact ⟨rfl, rfl⟩) rfl (by first | decide | exact qbr rfl | simp)) ?_
  refine zab ?_
  refine km [0, 1] (qI rfl) rfl rfl ?_ ⟨rfl, rfl, trivial⟩
  rfl
 ·refine ⟨[], [0, 2, 3, 4, 5, 6], rfl, ?_⟩
  refine zab ?_
  refine za rfl (zat rfl gA (ev1 rfl) rfl rfl) ?_
  refine za rfl (zak [] [] [] rfl (ev1 rfl) (ec (ev1 rfl) en) rfl rfl (vU) rfl rfl rfl rfl rfl rfl) ?_
  refine za rfl (qC rfl (ev1 rfl) (fun s v h => by cases h; exact ⟨_, rfl⟩)) ?_
  refine za rfl (zas rfl gH (ev1 rfl)) ?_
  refine za rfl (zas rfl yQ (ev1 rfl)) ?_
  refine zaq rfl (kQ rfl kc (ev1 rfl) (ev1 rfl) (fun s v h => by cases h <;> exact ⟨rfl, rfl⟩) rfl (by first | decide | exact qbr rfl | simp)) ?_
  refine zab ?_
  refine km [0, 1] (qI rfl) rfl rfl ?_ ⟨rfl, rfl, trivial⟩
  rfl
 ·refine ⟨[], [2, 0, 3, 4, 5, 6], rfl, ?_⟩
  refine zab ?_
  refine za rfl (zak [] [] [] rfl (ev1 rfl) (ec (ev1 rfl) en) rfl rfl (vU) rfl rfl rfl rfl rfl rfl) ?_
  refine za rfl (zat rfl gA (ev1 rfl) rfl rfl) ?_
  refine za rfl (qC rfl (ev1 rfl) (fun s v h => by cases h; exact ⟨_, rfl⟩)) ?_
  refine za rfl (zas rfl gH (ev1 rfl)) ?_
  refine za rfl (zas rfl yQ (ev1 rfl)) ?_
  refine zaq rfl (kQ rfl kc (ev1 rfl) (ev1 rfl) (fun s v h => by cases h <;> exact ⟨rfl, rfl⟩) rfl (by first | decide | exact qbr rfl | simp)) ?_
  refine zab ?_
  refine km [0, 1] (qI rfl) rfl rfl ?_ ⟨rfl, rfl, trivial⟩
  rfl
theorem GL (l : List Int) (e n : Int) : DDef Tryz.prog 140 [.loc 0 0] [.mix 174 [.loc 1 0], .mix 206 [.slf 1 (l).length ((l).flatMap uc8), .val (.int .i64 e)]] (some (.ifc 130 (.val (.agg #[.int .i64 n])))) none [.mix 174 [.loc 1 0], .mix 206 [.slf 1 (l).length ((l).flatMap uc8), .val (.int .i64 n)]] := by
 refine Yv (dr := .tup []) (t := 2) (N := 7) 2 1 [[0, 1, 2, 3, 4, 5, 6], [1, 0, 2, 3, 4, 5, 6], [1, 2, 0, 3, 4, 5, 6]] qJ (by kernel_rfl) Tryz.func140 rfl rfl rfl (by simp only [fr0, qbh, qbj]; exact rfl) rfl rfl (by kernel_rfl) rfl rfl rfl rfl fun s0 hs0 L hL => ?_
 simp only [List.mem_cons, List.not_mem_nil, or_false] at hL
 rcases hL with rfl | rfl | rfl
 ·refine ⟨[0], [2, 3, 4, 5, 6], rfl, ?_⟩
  refine za rfl (zat rfl gA (ev1 rfl) rfl rfl) ?_
  refine zab ?_
  refine za rfl (zak [] [] [] rfl (ev1 rfl) (ec (ev1 rfl) en) rfl rfl (zR n) rfl rfl rfl rfl rfl rfl) ?_
  refine za rfl (qC rfl (ev1 rfl) (fun s v h => by cases h; exact ⟨_, rfl⟩)) ?_
  refine za rfl (zas rfl gH (ev1 rfl)) ?_
  refine za rfl (zas rfl yQ (ev1 rfl)) ?_
  refine zaq rfl (kQ rfl kc (ev1 rfl) (ev1 rfl) (fun s v h => by cases h <;> exact ⟨rfl, rfl⟩) rfl (by first | decide | exact qbr rfl | simp)) ?_
  refine zab ?_
  refine km [0, 1] (qI rfl) rfl rfl ?_ ⟨rfl, rfl, trivial⟩
  rfl
 ·refine ⟨[], [0, 2, 3, 4, 5, 6], rfl, ?_⟩
  refine zab ?_
  refine za rfl (zat rfl gA (ev1 rfl) rfl rfl) ?_
  refine za rfl (zak [] [] [] rfl (ev1 rfl) (ec (ev1 rfl) en) rfl rfl (zR n) rfl rfl rfl rfl rfl rfl) ?_
  refine za rfl (qC rfl (ev1 rfl) (fun s v h => by cases h; exact ⟨_, rfl⟩)) ?_
  refine za rfl (zas rfl gH (ev1 rfl)) ?_
  refine za rfl (zas rfl yQ (ev1 rfl)) ?_
  refine zaq rfl (kQ rfl kc (ev1 rfl) (ev1 rfl) (fun s v h => by cases h <;> exact ⟨rfl, rfl⟩) rfl (by first | decide | exact qbr rfl | simp)) ?_
  refine zab ?_
  refine km [0, 1] (qI rfl) rfl rfl ?_ ⟨rfl, rfl, trivial⟩
  rfl
 ·refine ⟨[], [2, 0, 3, 4, 5, 6], rfl, ?_⟩
  refine zab ?_
  refine za rfl (zak [] [] [] rfl (ev1 rfl) (ec (ev1 rfl) en) rfl rfl (zR n) rfl rfl rfl rfl rfl rfl) ?_
  refine za rfl (zat rfl gA (ev1 rfl) rfl rfl) ?_
  refine za rfl (qC rfl (ev1 rfl) (fun s v h => by cases h; exact ⟨_, rfl⟩)) ?_
  refine za rfl (zas rfl gH (ev1 rfl)) ?_
  refine za rfl (zas rfl yQ (ev1 rfl)) ?_
  refine zaq rfl (kQ rfl kc (ev1 rfl) (ev1 rfl) (fun s v h => by cases h <;> exact ⟨rfl, rfl⟩) rfl (by first | decide | exact qbr rfl | simp)) ?_
  refine zab ?_
  refine km [0, 1] (qI rfl) rfl rfl ?_ ⟨rfl, rfl, trivial⟩
  rfl
theorem Hg (L : List Int) (hL : L.length ≤ 2000000) (w : Nat) (hw : 1 ≤ w ∧ w ≤ 8) (h : w ≤ L.length) : DFun Tryz.prog 138 [.loc 0 0, .loc 1 0, .loc 2 0] [.flat 3 [.int .i64 (w : Int)], .mix 174 [.loc 3 0], .flat 25 [.int .u64 0], .mix 206 [.slf 1 (L).length ((L).flatMap uc8), .val (.int .i64 0)]] (.tup []) [.flat 3 [.int .i64 (w : Int)], .mix 174 [.loc 3 0], .flat 25 [.int .u64 (kw w L)], .mix 206 [.slf 1 (L.drop w).length ((L.drop w).flatMap uc8), .val (.int .i64 0)]] := by
 refine zap (N := 11) 4 (by kernel_rfl) Tryz.func138 rfl rfl rfl (by simp only [fr0, qbh, qbj]; exact rfl) rfl fun s0 hs0 => ?_
 refine zai ?_
 refine za rfl (qx rfl tb3 (ev1 rfl) rfl rfl) ?_
 refine za rfl (xk (ps := [(0, .tmp 3)]) rfl uT zr3 rfl (vc (ev1 rfl) vn) rfl (by decide) (by decide)) ?_
 refine za rfl (zak [] [] [] rfl (ev1 rfl) (ec (ev1 rfl) en) rfl rfl (vT [(w : Int)] (by simp [GF]; omega)) rfl rfl rfl rfl rfl rfl) ?_
 refine zab ?_
 refine qh [([1], []), ([], []), ([], []), ([0], []), ([3], [3]), ([2], [2])] qJ (by kernel_rfl) ?_
 refine zae rfl rfl (zat rfl gA (ev1 rfl) rfl rfl) ?_
 refine zae rfl rfl (qC rfl (ev1 rfl) (fun s v h => by cases h; exact ⟨_, rfl⟩)) ?_
 refine zae rfl rfl (zas rfl gH (ev1 rfl)) ?_
 refine zae rfl rfl (qx rfl tb3 (ev1 rfl) rfl rfl) ?_
 refine gg rfl rfl (zak [3] [] [] rfl (ev1 rfl) (ec (ev1 rfl) (ec (ev1 rfl) en)) rfl rfl (JP _ L (by omega) 0 w h) rfl rfl rfl rfl rfl rfl) rfl (by simp only [upd, zaf, zag]; exact rfl) ?_
 refine jq rfl rfl (qN rfl kC (ev1 rfl) (ev1 rfl) rfl) rfl (by simp only [upd, zaf, zag]; exact rfl) ?_
 refine ql ?_
 refine km [0, 1, 2, 3] (qI rfl) rfl rfl ?_ ⟨rfl, rfl, rfl, rfl, trivial⟩
 rfl
theorem Xv (L : List Int) (w : Nat) (hw : 1 ≤ w ∧ w ≤ 8) (h : L.length < w) : DPan Tryz.prog 138 [.loc 0 0, .loc 1 0, .loc 2 0] [.flat 3 [.int .i64 (w : Int)], .mix 174 [.loc 3 0], .flat 25 [.int .u64 0], .mix 206 [.slf 1 (L).length ((L).flatMap uc8), .val (.int .i64 0)]] (.ifc 130 (.val (.agg #[.int .i64 110]))) [.flat 3 [.int .i64 (w : Int)], .mix 174 [.loc 3 0], .flat 25 [.int .u64 0], .mix 206 [.slf 1 (L).length ((L).flatMap uc8), .val (.int .i64 0)]] := by
 refine zap (N := 11) 4 (by kernel_rfl) Tryz.func138 rfl rfl rfl (by simp only [fr0, qbh, qbj]; exact rfl) rfl fun s0 hs0 => ?_
 refine zai ?_
 refine za rfl (qx rfl tb3 (ev1 rfl) rfl rfl) ?_
 refine za rfl (xk (ps := [(0, .tmp 3)]) rfl uT zr3 rfl (vc (ev1 rfl) vn) rfl (by decide) (by decide)) ?_
 refine za rfl (zak [] [] [] rfl (ev1 rfl) (ec (ev1 rfl) en) rfl rfl (vT [(w : Int)] (by simp [GF]; omega)) rfl rfl rfl rfl rfl rfl) ?_
 refine zab ?_
 refine y0 4 [([1], []), ([], []), ([], []), ([0], [])] qJ (by kernel_rfl) rfl rfl ?_
 refine zae rfl rfl (zat rfl gA (ev1 rfl) rfl rfl) ?_
 refine zae rfl rfl (qC rfl (ev1 rfl) (fun s v h => by cases h; exact ⟨_, rfl⟩)) ?_
 refine zae rfl rfl (zas rfl gH (ev1 rfl)) ?_
 refine zae rfl rfl (qx rfl tb3 (ev1 rfl) rfl rfl) ?_
 refine ql ⟨_, _, _, rfl, qQ [3] [] [] rfl (ev1 rfl) (ec (ev1 rfl) (ec (ev1 rfl) en)) rfl rfl (KM _ L 0 w h) rfl rfl rfl rfl rfl rfl, ?_⟩
 refine Gp [0, 1, 2, 3] rfl rfl ?_ ⟨rfl, rfl, rfl, rfl, trivial⟩
 rfl
theorem Xw (L : List Int) (hL : L.length ≤ 2000000) (w : Nat) (hw : 1 ≤ w ∧ w ≤ 8) (h : w ≤ L.length) : DFun Tryz.prog 137 [.loc 0 0, .fn (.func 138) [] [.loc 1 0, .loc 2 0, .loc 3 0]] [.mix 206 [.slf 1 (L).length ((L).flatMap uc8), .val (.int .i64 0)], .flat 3 [.int .i64 (w : Int)], .mix 174 [.loc 0 0], .flat 25 [.int .u64 0]] (.tup []) [.mix 206 [.slf 1 (L.drop w).length ((L.drop w).flatMap uc8), .val (.int .i64 0)], .flat 3 [.int .i64 (w : Int)], .mix 174 [.loc 0 0], .flat 25 [.int .u64 (kw w L)]] := by
 refine qA (N := 17) 4 (by kernel_rfl) Tryz.func137 rfl rfl rfl (by simp only [fr0, qbh, qbj]; exact rfl) rfl fun s0 hs0 => ?_
 refine qP rfl hs0 ?_
 refine zam 1 ?_
 refine zac ?_
 refine zal rfl (gW 4 rfl (ev1 rfl) (fun s v h => by cases h <;> rfl) rfl) ?_
 refine zab ?_
 refine qP rfl hs0 ?_
 refine zai ?_
 refine za rfl (zat rfl gA (ev1 rfl) rfl rfl) ?_
 refine za rfl (Vj rfl VG (ev1 rfl)) ?_
 refine zaa 1 rfl ?_
 refine zah (qa rfl rfl rfl) rfl rfl rfl (zat rfl gA (ev1 rfl) rfl rfl) ?_
 refine zah (qa rfl rfl rfl) rfl rfl rfl (qC rfl (ev2 rfl) (fun s v h => by cases h; exact ⟨_, rfl⟩)) ?_
 refine zah (qa rfl rfl rfl) rfl rfl rfl (zas rfl gH (ev2 rfl)) ?_
 refine zah (qa rfl rfl rfl) rfl rfl rfl (zas rfl yQ (ev2 rfl)) ?_
 refine zah (qa rfl rfl rfl) rfl rfl rfl (zat rfl kc (ev2 rfl) rfl rfl) ?_
 refine zah (qa rfl rfl rfl) rfl rfl rfl (qV rfl (ev2 rfl) (ev1 rfl)) ?_
 refine za rfl (qK rfl (ev1 rfl) (ev3 rfl id)) ?_
 refine zab ?_
 refine qf rfl (rfl) ?_
 refine zao ?_
 refine qD (l0 := [_]) rfl rfl rfl rfl rfl hs0 ?_
 refine za rfl (ki rfl en (ec (ev1 rfl) en)) ?_
 refine zab ⟨_, _, _, 5, ev1 rfl, qbE hs0 (by decide), rfl, ?_⟩
 have hs1 : s0.M.length ≤ 5 := qbE hs0 (by decide)
 refine qO rfl hs0 ?_
 refine zac ?_
 refine zaa 1 rfl ?_
 refine zal rfl (zak [1, 2, 3, 0] [] [] rfl (ev1 rfl) en rfl rfl (Hg L hL w hw h) rfl rfl rfl rfl rfl rfl) ?_
 refine zab ?_
 refine gq (kU [4, 0] [] rfl rfl (QT _ _) rfl rfl rfl rfl rfl) ?_
 refine km [0, 1, 2, 3] (qI rfl) rfl rfl ?_ ⟨rfl, rfl, rfl, rfl, trivial⟩
 rfl
theorem Xx (L : List Int) (w : Nat) (hw : 1 ≤ w ∧ w ≤ 8) (h : L.length < w) : DFun Tryz.prog 137 [.loc 0 0, .fn (.func 138) [] [.loc 1 0, .loc 2 0, .loc 3 0]] [.mix 206 [.slf 1 (L).length ((L).flatMap uc8), .val (.int .i64 0)], .flat 3 [.int .i64 (w : Int)], .mix 174 [.loc 0 0], .flat 25 [.int .u64 0]] (.tup []) [.mix 206 [.slf 1 (L).length ((L).flatMap uc8), .val (.int .i64 110)], .flat 3 [.int .i64 (w : Int)], .mix 174 [.loc 0 0], .flat 25 [.int .u64 0]] := by
 refine qA (N := 17) 4 (by kernel_rfl) Tryz.func137 rfl rfl rfl (by simp only [fr0, qbh, qbj]; exact rfl) rfl fun s0 hs0 => ?_
 refine qP rfl hs0 ?_
 refine zam 1 ?_
 refine zac ?_
 refine zal rfl (gW 4 rfl (ev1 rfl) (fun s v h => by cases h <;> rfl) rfl) ?_
 refine zab ?_
 refine qP rfl hs0 ?_
 refine zai ?_
 refine za rfl (zat rfl gA (ev1 rfl) rfl rfl) ?_
 refine za rfl (Vj rfl VG (ev1 rfl)) ?_
 refine zaa 1 rfl ?_
 refine zah (qa rfl rfl rfl) rfl rfl rfl (zat rfl gA (ev1 rfl) rfl rfl) ?_
 refine zah (qa rfl rfl rfl) rfl rfl rfl (qC rfl (ev2 rfl) (fun s v h => by cases h; exact ⟨_, rfl⟩)) ?_
 refine zah (qa rfl rfl rfl) rfl rfl rfl (zas rfl gH (ev2 rfl)) ?_
 refine zah (qa rfl rfl rfl) rfl rfl rfl (zas rfl yQ (ev2 rfl)) ?_
 refine zah (qa rfl rfl rfl) rfl rfl rfl (zat rfl kc (ev2 rfl) rfl rfl) ?_
 refine zah (qa rfl rfl rfl) rfl rfl rfl (qV rfl (ev2 rfl) (ev1 rfl)) ?_
 refine za rfl (qK rfl (ev1 rfl) (ev3 rfl id)) ?_
 refine zab ?_
 refine qf rfl (rfl) ?_
 refine zao ?_
 refine qD (l0 := [_]) rfl rfl rfl rfl rfl hs0 ?_
 refine za rfl (ki rfl en (ec (ev1 rfl) en)) ?_
 refine zab ⟨_, _, _, 5, ev1 rfl, qbE hs0 (by decide), rfl, ?_⟩
 have hs1 : s0.M.length ≤ 5 := qbE hs0 (by decide)
 refine qO rfl hs0 ?_
 refine zac ?_
 refine zaa 1 rfl ?_
 refine kz rfl (qQ [1, 2, 3, 0] [] [] rfl (ev1 rfl) en rfl rfl (Xv L w hw h) rfl rfl rfl rfl rfl rfl) rfl ?_
 refine gq (qZ [4, 0] [] rfl rfl rfl (GL _ _ _) rfl rfl rfl rfl rfl) ?_
 refine km [0, 1, 2, 3] (qI rfl) rfl rfl ?_ ⟨rfl, rfl, rfl, rfl, trivial⟩
 rfl
theorem Hh (L : List Int) (hL : L.length ≤ 2000000) (w : Nat) (hw : 1 ≤ w ∧ w ≤ 8) (h : w ≤ L.length) : DFun Tryz.prog 130 [.loc 0 0, .val (.int .i64 (w : Int))] [.mix 206 [.slf 1 (L).length ((L).flatMap uc8), .val (.int .i64 0)]] (.val (.int .u64 (kw w L))) [.mix 206 [.slf 1 (L.drop w).length ((L.drop w).flatMap uc8), .val (.int .i64 0)]] := by
 refine zap (N := 9) 1 (by kernel_rfl) Tryz.func130 rfl rfl rfl (by simp only [fr0, qbh, qbj]; exact rfl) rfl fun s0 hs0 => ?_
 refine zad ?_
 refine zam 3 ?_
 refine zac ?_
 refine zal rfl (gW 1 rfl (ev1 rfl) (fun s v h => by cases h <;> rfl) rfl) ?_
 refine zal rfl (xi 2 rfl (ev1 rfl) rfl) ?_
 refine zal rfl (zan 3 rfl zr25 rfl) ?_
 refine zab ?_
 refine zai ?_
 refine za rfl (zat rfl gA (ev1 rfl) rfl rfl) ?_
 refine za rfl (ki rfl en (ec (ev1 rfl) (ec (ev1 rfl) (ec (ev1 rfl) en)))) ?_
 refine zal rfl (zak [0, 2, 1, 3] [] [] rfl (ev1 rfl) (ec (ev1 rfl) (ec (ev1 rfl) en)) rfl rfl (Xw L hL w hw h) rfl rfl rfl rfl rfl rfl) ?_
 refine zab ?_
 refine zai ?_
 refine za rfl (qx rfl kC (ev1 rfl) rfl rfl) ?_
 refine zaq rfl (qN rfl kC (ev1 rfl) (ev1 rfl) rfl) ?_
 refine zab ?_
 refine zau ?_
 refine km [0] (rs1 rfl (j4 kC rfl rfl rfl)) rfl rfl ?_ ⟨rfl, trivial⟩
 rfl
theorem Xy (L : List Int) (w : Nat) (hw : 1 ≤ w ∧ w ≤ 8) (h : L.length < w) : DFun Tryz.prog 130 [.loc 0 0, .val (.int .i64 (w : Int))] [.mix 206 [.slf 1 (L).length ((L).flatMap uc8), .val (.int .i64 0)]] (.val (.int .u64 0)) [.mix 206 [.slf 1 (L).length ((L).flatMap uc8), .val (.int .i64 110)]] := by
 refine zap (N := 9) 1 (by kernel_rfl) Tryz.func130 rfl rfl rfl (by simp only [fr0, qbh, qbj]; exact rfl) rfl fun s0 hs0 => ?_
 refine zad ?_
 refine zam 3 ?_
 refine zac ?_
 refine zal rfl (gW 1 rfl (ev1 rfl) (fun s v h => by cases h <;> rfl) rfl) ?_
 refine zal rfl (xi 2 rfl (ev1 rfl) rfl) ?_
 refine zal rfl (zan 3 rfl zr25 rfl) ?_
 refine zab ?_
 refine zai ?_
 refine za rfl (zat rfl gA (ev1 rfl) rfl rfl) ?_
 refine za rfl (ki rfl en (ec (ev1 rfl) (ec (ev1 rfl) (ec (ev1 rfl) en)))) ?_
 refine zal rfl (zak [0, 2, 1, 3] [] [] rfl (ev1 rfl) (ec (ev1 rfl) (ec (ev1 rfl) en)) rfl rfl (Xx L w hw h) rfl rfl rfl rfl rfl rfl) ?_
 refine zab ?_
 refine zai ?_
 refine za rfl (qx rfl kC (ev1 rfl) rfl rfl) ?_
 refine zaq rfl (qN rfl kC (ev1 rfl) (ev1 rfl) rfl) ?_
 refine zab ?_
 refine zau ?_
 refine km [0] (rs1 rfl (j4 kC rfl rfl rfl)) rfl rfl ?_ ⟨rfl, trivial⟩
 rfl
end Go.Proofs.YtofklkbfkoliiaaGreat
namespace Go.Proofs.YtofklkbfkoliiaaGreat
set_option linter.unusedVariables false
set_option linter.unusedSimpArgs false
def uZ : Nat → Nat → List Int
 | 0, _ => []
 | w + 1, n => ((n / 256 ^ w % 256 : Nat) : Int) :: uZ w n
def k6 (l : List Int) (acc : Nat) : Nat := l.foldl (fun a b => a * 256 + b.toNat) acc
theorem xG : ∀ w n, (uZ w n).length = w
 | 0, _ => rfl
 | w + 1, n => by rw [uZ, qbC, xG]
theorem KU (w : Nat) : 0 < 256 ^ w := Nat.pow_pos (by decide)
theorem YW : ∀ (w a v : Nat), uZ w (a * 256 ^ w + v) = uZ w v
 | 0, _, _ => rfl
 | w + 1, a, v => by
  have e : a * 256 ^ (w + 1) + v = (a * 256) * 256 ^ w + v := by rw [Nat.pow_succ, Nat.mul_assoc, Nat.mul_comm 256]
  rw [uZ, uZ, e, YW w (a * 256) v]
  congr 2
  rw [Nat.mul_comm, Nat.mul_add_div (KU w)]
  omega
theorem YX : ∀ (w n acc : Nat), k6 (uZ w n) acc = acc * 256 ^ w + n % 256 ^ w
 | 0, n, acc => by simp [uZ, k6, Nat.mod_one]
 | w + 1, n, acc => by
  have h := YX w n (acc * 256 + n / 256 ^ w % 256)
  unfold k6 at h ⊢
  rw [uZ, List.foldl_cons, qbS, h, Nat.pow_succ, Nat.mod_mul, Nat.add_mul, Nat.mul_assoc, Nat.mul_comm 256, Nat.mul_comm (n / 256 ^ w % 256)]
  omega
theorem xH : ∀ (l : List Int) (acc : Nat), k6 l acc = acc * 256 ^ l.length + k6 l 0
 | [], acc => by simp [k6]
 | x :: l, acc => by
  have h1 := xH l (acc * 256 + x.toNat)
  have h2 := xH l (0 * 256 + x.toNat)
  unfold k6 at h1 h2 ⊢
  rw [List.foldl_cons, List.foldl_cons, h1, h2, qbC, Nat.pow_succ, Nat.add_mul, Nat.zero_mul, qbh, Nat.mul_assoc, Nat.mul_comm 256]
  omega
theorem zV : ∀ (l : List Int), isB l → k6 l 0 < 256 ^ l.length
 | [], _ => by simp [k6]
 | x :: l, h => by
  have h1 := zV l fun y hy => h y (qbT _ hy)
  have hx := h x (qbR ..)
  have h2 := xH l (0 * 256 + x.toNat)
  unfold k6 at h1 h2 ⊢
  rw [List.foldl_cons, h2, qbC, Nat.pow_succ, Nat.zero_mul, qbh]
  have : x.toNat * 256 ^ l.length + 256 ^ l.length ≤ 256 ^ l.length * 256 := by
   rw [Nat.mul_comm (256 ^ l.length) 256, ← qbX]
   exact Nat.mul_le_mul_right _ (by omega)
  omega
theorem VO : ∀ (l : List Int), isB l → uZ l.length (k6 l 0) = l
 | [], _ => rfl
 | x :: l, h => by
  have hl : isB l := fun y hy => h y (qbT _ hy)
  have h1 := VO l hl
  have hv := zV l hl
  have hx := h x (qbR ..)
  have h2 : k6 (x :: l) 0 = x.toNat * 256 ^ l.length + k6 l 0 := by
   have h2 := xH l (0 * 256 + x.toNat)
   unfold k6 at h2 ⊢
   rw [List.foldl_cons, h2, Nat.zero_mul, qbh]
  rw [h2, qbC, uZ, YW, h1]
  congr 1
  rw [Nat.mul_comm, Nat.mul_add_div (KU _), Nat.div_eq_of_lt hv]
  omega
def kO (w : Nat) (n : Int) : List Int := uZ w n.toNat
def tkN (S : Int) (w : Nat) : Tkr Int := fun b => if b.length < w then .err S else .ok (k6 (b.take w) 0 : Int) (b.drop w)
theorem cdN (S : Int) (w : Nat) : Cd S (fun n : Int => 0 ≤ n ∧ n < (256 ^ w : Nat)) (kO w) (tkN S w) where
 fwd n r h := by
  have hl : (kO w n).length = w := xG _ _
  unfold tkN
  rw [if_neg (by rw [qbf]; omega), List.take_append_of_le_length (by omega), qbJ (by omega), List.drop_append_of_le_length (by omega), List.drop_of_length_le (by omega)]
  unfold kO
  rw [YX, Nat.zero_mul, qbh, Nat.mod_eq_of_lt (by omega), Int.toNat_of_nonneg h.1]
  rfl
 bwd b n r hb h := by
  unfold tkN at h
  by_cases hw : b.length < w
  ·rw [if_pos hw] at h; cases h
  ·rw [if_neg hw] at h
   cases h
   have hb' : isB (b.take w) := fun x hx => hb x (List.mem_of_mem_take hx)
   have hl : (b.take w).length = w := by rw [qbD]; omega
   have h1 := VO _ hb'
   have h2 := zV _ hb'
   rw [hl] at h1 h2
   refine ⟨?_, Int.natCast_nonneg _, by exact_mod_cast h2⟩
   unfold kO
   rw [qbS, h1, List.take_append_drop]
 sh n k h hk := by
  have hl : (kO w n).length = w := xG _ _
  unfold tkN
  rw [if_pos (by rw [qbD]; omega)]
end Go.Proofs.YtofklkbfkoliiaaGreat
namespace Go.Proofs.YtofklkbfkoliiaaGreat
set_option linter.unusedVariables false
set_option linter.unusedSimpArgs false
section
variable {α β : Type} {S : Int} {ok : α → Prop} {lay : α → List Int} {tk : Tkr α} {ok2 : α → β → Prop} {lay2 : α → β → List Int} {tk2 : α → Tkr β}
theorem Cd.dep (c : Cd S ok lay tk) (d : ∀ a, ok a → Cd S (ok2 a) (lay2 a) (tk2 a)) : Cd S (fun p : α × β => ok p.1 ∧ ok2 p.1 p.2) (fun p => lay p.1 ++ lay2 p.1 p.2) (fun b => (tk b).bind fun a r => (tk2 a r).bind fun x r => .ok (a, x) r) where
 fwd p r h := by
  rw [qbM, c.fwd _ _ h.1]
  show (tk2 _ _).bind _ = _
  rw [(d _ h.1).fwd _ _ h.2]
  rfl
 bwd b p r hb h := by
  cases h1 : tk b with
  | err e => rw [h1] at h; cases h
  | ok a r1 =>
   rw [h1] at h
   have h : (tk2 a r1).bind (fun x r => Tk.ok (a, x) r) = .ok p r := h
   obtain ⟨e1, k1⟩ := c.bwd b a r1 hb h1
   cases h2 : tk2 a r1 with
   | err e => rw [h2] at h; cases h
   | ok x r2 =>
    rw [h2] at h
    cases h
    obtain ⟨e2, k2⟩ := (d a k1).bwd r1 x r (by rw [e1] at hb; exact (isB_app.1 hb).2) h2
    exact ⟨by rw [e1, e2, qbM], k1, k2⟩
 sh p k h hk := by
  by_cases h1 : k < (lay p.1).length
  ·rw [List.take_append_of_le_length (by omega), c.sh _ _ h.1 h1]
   rfl
  ·rw [qbf] at hk
   rw [List.take_append, qbJ (by omega), c.fwd _ _ h.1]
   show (tk2 _ _).bind _ = _
   rw [(d _ h.1).sh _ _ h.2 (by omega)]
   rfl
theorem Cd.iff {ok' : α → Prop} (c : Cd S ok lay tk) (h : ∀ a, ok' a ↔ ok a) : Cd S ok' lay tk where
 fwd a r k := c.fwd a r ((h a).1 k)
 bwd b a r hb e := ⟨(c.bwd b a r hb e).1, (h a).2 (c.bwd b a r hb e).2⟩
 sh a k k1 hk := c.sh a k ((h a).1 k1) hk
end
theorem Xz {i : I3} (h : xy i = true) : (1 ≤ i.t ∧ i.t ≤ 4611686018427387904) ∧ (1 ≤ i.s ∧ i.s ≤ 8) ∧ (1 ≤ i.q ∧ i.q ≤ 4611686018427387904) := by
 unfold xy UT isSt at h
 simpa using h
def idB (i : I3) : List Int := kO 8 i.t ++ (kO 1 i.s ++ kO 8 i.q)
def An (S : Int) : Tkr I3 := fun b => ((tkN S 8 b).bind fun t r => ((tkN S 1 r).bind fun s r => (tkN S 8 r).bind fun q r => Tk.ok (s, q) r).bind fun p r => .ok (t, p) r).bind fun a r => .ok ⟨a.1, a.2.1, a.2.2⟩ r
def tkId (S C : Int) : Tkr I3 := fun b => (An S b).bind fun a r => if xy a then .ok a r else .err C
theorem WM (S C : Int) : Cd S (fun i => xy i = true) idB (tkId S C) :=
 ((((cdN S 8).seq ((cdN S 1).seq (cdN S 8))).map (ok2 := fun i : I3 => (0 ≤ i.t ∧ i.t < (256 ^ 8 : Nat)) ∧ (0 ≤ i.s ∧ i.s < (256 ^ 1 : Nat)) ∧ (0 ≤ i.q ∧ i.q < (256 ^ 8 : Nat))) (fun p => (⟨p.1, p.2.1, p.2.2⟩ : I3)) (fun i => (i.t, i.s, i.q)) (fun a h => ⟨rfl, h⟩) (fun x h => ⟨h, rfl⟩)).need C xy).iff fun i => by
  constructor
  ·intro h
   obtain ⟨h1, h2, h3⟩ := Xz h
   have e8 : ((256 ^ 8 : Nat) : Int) = 18446744073709551616 := by decide
   have e1 : ((256 ^ 1 : Nat) : Int) = 256 := by decide
   refine ⟨⟨?_, ?_, ?_⟩, h⟩ <;> (first | rw [e8] | rw [e1]) <;> omega
  ·exact fun h => h.2
def zf (x : Int) : List Int := kO 1 (x + 64)
def tkPl (S : Int) : Tkr Int := fun b => (tkN S 1 b).bind fun a r => .ok (a - 64) r
theorem zD (S : Int) : Cd S (fun x : Int => -64 ≤ x ∧ x < 192) zf (tkPl S) :=
 (cdN S 1).map (fun a => a - 64) (fun x => x + 64) (fun a h => by
  have e1 : ((256 ^ 1 : Nat) : Int) = 256 := by decide
  rw [e1] at h
  exact ⟨by omega, by omega⟩) (fun x h => by
  have e1 : ((256 ^ 1 : Nat) : Int) = 256 := by decide
  rw [e1]
  exact ⟨by omega, by omega⟩)
def okC (c : C4) : Prop := (0 ≤ c.r ∧ c.r < (256 ^ 1 : Nat)) ∧ (0 ≤ c.g ∧ c.g < (256 ^ 1 : Nat)) ∧ (0 ≤ c.b ∧ c.b < (256 ^ 1 : Nat)) ∧ (0 ≤ c.a ∧ c.a < (256 ^ 1 : Nat))
def WN (c : C4) : List Int := kO 1 c.r ++ (kO 1 c.g ++ (kO 1 c.b ++ kO 1 c.a))
def XA (S : Int) : Tkr C4 := fun b => ((tkN S 1 b).bind fun t r => ((tkN S 1 r).bind fun s r => ((tkN S 1 r).bind fun p r => (tkN S 1 r).bind fun q r => Tk.ok (p, q) r).bind fun q r => Tk.ok (s, q) r).bind fun p r => .ok (t, p) r).bind fun a r => .ok ⟨a.1, a.2.1, a.2.2.1, a.2.2.2⟩ r
theorem cdCo (S : Int) : Cd S okC WN (XA S) :=
 ((cdN S 1).seq ((cdN S 1).seq ((cdN S 1).seq (cdN S 1)))).map (ok2 := okC) (fun p : Int × Int × Int × Int => (⟨p.1, p.2.1, p.2.2.1, p.2.2.2⟩ : C4)) (fun c => (c.r, c.g, c.b, c.a)) (fun a h => ⟨rfl, h⟩) (fun x h => ⟨h, rfl⟩)
def tkSi (S C : Int) : Tkr Int := fun b => (tkN S 1 b).bind fun a r => if siD a then .ok a r else .err C
theorem cdSi (S C : Int) : Cd S (fun n => siD n = true) (kO 1) (tkSi S C) :=
 ((cdN S 1).need C siD).iff fun n => by
  have e1 : ((256 ^ 1 : Nat) : Int) = 256 := by decide
  rw [e1]
  constructor
  ·intro h
   have h2 := h
   unfold siD at h2
   simp at h2
   exact ⟨by omega, h⟩
  ·exact fun h => h.2
def stBy (s : (Int × Int) × List C4) : List Int := (kO 1 s.1.1 ++ kO 1 s.1.2) ++ s.2.flatMap WN
def tkSt (S C : Int) : Tkr ((Int × Int) × List C4) := fun b => ((tkSi S C b).bind fun a r => (tkSi S C r).bind fun x r => Tk.ok (a, x) r).bind fun a r => (yl (XA S) (a.1 * a.2).toNat r).bind fun x r => .ok (a, x) r
theorem cdSt (S C : Int) : Cd S (fun s : (Int × Int) × List C4 => (siD s.1.1 = true ∧ siD s.1.2 = true) ∧ s.2.length = (s.1.1 * s.1.2).toNat ∧ ∀ c ∈ s.2, okC c) stBy (tkSt S C) :=
 ((cdSi S C).seq (cdSi S C)).dep (ok2 := fun (a : Int × Int) (l : List C4) => l.length = (a.1 * a.2).toNat ∧ ∀ c ∈ l, okC c) (lay2 := fun _ (l : List C4) => l.flatMap WN) (fun a _ => (cdCo S).rep (a.1 * a.2).toNat)
end Go.Proofs.YtofklkbfkoliiaaGreat
namespace Go.Proofs.YtofklkbfkoliiaaGreat
set_option linter.unusedVariables false
set_option linter.unusedSimpArgs false
def zE (x : Int) : Prop := -64 ≤ x ∧ x < 192
def isSz (x : Int) : Prop := 0 ≤ x ∧ x < (256 ^ 2 : Nat)
def cd12 (S C k : Int) : { tk : Tkr OpM // Cd S (fun o : OpM => o.kd = k ∧ xy o.id = true ∧ zE o.x ∧ zE o.y ∧ zE o.x2 ∧ zE o.y2 ∧ isSz o.sz ∧ okC o.co ∧ o.sw = 0 ∧ o.sh = 0 ∧ o.px = [] ∧ o.tg = zI3) (fun o => idB o.id ++ (zf o.x ++ (zf o.y ++ (zf o.x2 ++ (zf o.y2 ++ (kO 2 o.sz ++ WN o.co)))))) tk } :=
 ⟨_, ((WM S C).seq ((zD S).seq ((zD S).seq ((zD S).seq ((zD S).seq ((cdN S 2).seq (cdCo S))))))).map (fun p : I3 × Int × Int × Int × Int × Int × C4 => (⟨p.1, k, p.2.1, p.2.2.1, p.2.2.2.1, p.2.2.2.2.1, p.2.2.2.2.2.1, p.2.2.2.2.2.2, 0, 0, [], zI3⟩ : OpM)) (fun o => (o.id, o.x, o.y, o.x2, o.y2, o.sz, o.co))
  (fun a h => ⟨rfl, rfl, h.1, h.2.1, h.2.2.1, h.2.2.2.1, h.2.2.2.2.1, h.2.2.2.2.2.1, h.2.2.2.2.2.2, rfl, rfl, rfl, rfl⟩)
  (fun o h => by
   obtain ⟨id, kd, x, y, x2, y2, sz, co, sw, sh, px, tg⟩ := o
   obtain ⟨h1, h2, h3, h4, h5, h6, h7, h8, h9, h10, h11, h12⟩ := h
   dsimp only at h1 h2 h3 h4 h5 h6 h7 h8 h9 h10 h11 h12
   subst h1 h9 h10 h11 h12
   exact ⟨⟨h2, h3, h4, h5, h6, h7, h8⟩, rfl⟩)⟩
def cd34 (S C k : Int) : { tk : Tkr OpM // Cd S (fun o : OpM => o.kd = k ∧ xy o.id = true ∧ zE o.x ∧ zE o.y ∧ zE o.x2 ∧ zE o.y2 ∧ o.sz = 0 ∧ okC o.co ∧ o.sw = 0 ∧ o.sh = 0 ∧ o.px = [] ∧ o.tg = zI3) (fun o => idB o.id ++ (zf o.x ++ (zf o.y ++ (zf o.x2 ++ (zf o.y2 ++ WN o.co))))) tk } :=
 ⟨_, ((WM S C).seq ((zD S).seq ((zD S).seq ((zD S).seq ((zD S).seq (cdCo S)))))).map (fun p : I3 × Int × Int × Int × Int × C4 => (⟨p.1, k, p.2.1, p.2.2.1, p.2.2.2.1, p.2.2.2.2.1, 0, p.2.2.2.2.2, 0, 0, [], zI3⟩ : OpM)) (fun o => (o.id, o.x, o.y, o.x2, o.y2, o.co))
  (fun a h => ⟨rfl, rfl, h.1, h.2.1, h.2.2.1, h.2.2.2.1, h.2.2.2.2.1, rfl, h.2.2.2.2.2, rfl, rfl, rfl, rfl⟩)
  (fun o h => by
   obtain ⟨id, kd, x, y, x2, y2, sz, co, sw, sh, px, tg⟩ := o
   obtain ⟨h1, h2, h3, h4, h5, h6, h7, h8, h9, h10, h11, h12⟩ := h
   dsimp only at h1 h2 h3 h4 h5 h6 h7 h8 h9 h10 h11 h12
   subst h1 h7 h9 h10 h11 h12
   exact ⟨⟨h2, h3, h4, h5, h6, h8⟩, rfl⟩)⟩
def cd5 (S C k : Int) : { tk : Tkr OpM // Cd S (fun o : OpM => o.kd = k ∧ xy o.id = true ∧ zE o.x ∧ zE o.y ∧ o.x2 = 0 ∧ o.y2 = 0 ∧ isSz o.sz ∧ okC o.co ∧ o.sw = 0 ∧ o.sh = 0 ∧ o.px = [] ∧ o.tg = zI3) (fun o => idB o.id ++ (zf o.x ++ (zf o.y ++ (kO 2 o.sz ++ WN o.co)))) tk } :=
 ⟨_, ((WM S C).seq ((zD S).seq ((zD S).seq ((cdN S 2).seq (cdCo S))))).map (fun p : I3 × Int × Int × Int × C4 => (⟨p.1, k, p.2.1, p.2.2.1, 0, 0, p.2.2.2.1, p.2.2.2.2, 0, 0, [], zI3⟩ : OpM)) (fun o => (o.id, o.x, o.y, o.sz, o.co))
  (fun a h => ⟨rfl, rfl, h.1, h.2.1, h.2.2.1, rfl, rfl, h.2.2.2.1, h.2.2.2.2, rfl, rfl, rfl, rfl⟩)
  (fun o h => by
   obtain ⟨id, kd, x, y, x2, y2, sz, co, sw, sh, px, tg⟩ := o
   obtain ⟨h1, h2, h3, h4, h5, h6, h7, h8, h9, h10, h11, h12⟩ := h
   dsimp only at h1 h2 h3 h4 h5 h6 h7 h8 h9 h10 h11 h12
   subst h1 h5 h6 h9 h10 h11 h12
   exact ⟨⟨h2, h3, h4, h7, h8⟩, rfl⟩)⟩
def cd6 (S C k : Int) : { tk : Tkr OpM // Cd S (fun o : OpM => o.kd = k ∧ xy o.id = true ∧ zE o.x ∧ zE o.y ∧ o.x2 = 0 ∧ o.y2 = 0 ∧ o.sz = 0 ∧ o.co = zC4 ∧ ((siD o.sw = true ∧ siD o.sh = true) ∧ o.px.length = (o.sw * o.sh).toNat ∧ ∀ c ∈ o.px, okC c) ∧ o.tg = zI3) (fun o => idB o.id ++ (zf o.x ++ (zf o.y ++ stBy ((o.sw, o.sh), o.px)))) tk } :=
 ⟨_, ((WM S C).seq ((zD S).seq ((zD S).seq (cdSt S C)))).map (fun p : I3 × Int × Int × (Int × Int) × List C4 => (⟨p.1, k, p.2.1, p.2.2.1, 0, 0, 0, zC4, p.2.2.2.1.1, p.2.2.2.1.2, p.2.2.2.2, zI3⟩ : OpM)) (fun o => (o.id, o.x, o.y, (o.sw, o.sh), o.px))
  (fun a h => ⟨rfl, rfl, h.1, h.2.1, h.2.2.1, rfl, rfl, rfl, rfl, h.2.2.2, rfl⟩)
  (fun o h => by
   obtain ⟨id, kd, x, y, x2, y2, sz, co, sw, sh, px, tg⟩ := o
   obtain ⟨h1, h2, h3, h4, h5, h6, h7, h8, h9, h10⟩ := h
   dsimp only at h1 h2 h3 h4 h5 h6 h7 h8 h9 h10
   subst h1 h5 h6 h7 h8 h10
   exact ⟨⟨h2, h3, h4, h9⟩, rfl⟩)⟩
def cd78 (S C k : Int) : { tk : Tkr OpM // Cd S (fun o : OpM => o.kd = k ∧ xy o.id = true ∧ o.x = 0 ∧ o.y = 0 ∧ o.x2 = 0 ∧ o.y2 = 0 ∧ o.sz = 0 ∧ o.co = zC4 ∧ o.sw = 0 ∧ o.sh = 0 ∧ o.px = [] ∧ xy o.tg = true) (fun o => idB o.id ++ idB o.tg) tk } :=
 ⟨_, ((WM S C).seq (WM S C)).map (fun p : I3 × I3 => (⟨p.1, k, 0, 0, 0, 0, 0, zC4, 0, 0, [], p.2⟩ : OpM)) (fun o => (o.id, o.tg))
  (fun a h => ⟨rfl, rfl, h.1, rfl, rfl, rfl, rfl, rfl, rfl, rfl, rfl, rfl, h.2⟩)
  (fun o h => by
   obtain ⟨id, kd, x, y, x2, y2, sz, co, sw, sh, px, tg⟩ := o
   obtain ⟨h1, h2, h3, h4, h5, h6, h7, h8, h9, h10, h11, h12⟩ := h
   dsimp only at h1 h2 h3 h4 h5 h6 h7 h8 h9 h10 h11 h12
   subst h1 h3 h4 h5 h6 h7 h8 h9 h10 h11
   exact ⟨⟨h2, h12⟩, rfl⟩)⟩
end Go.Proofs.YtofklkbfkoliiaaGreat
namespace Go.Proofs.YtofklkbfkoliiaaGreat
set_option linter.unusedVariables false
set_option linter.unusedSimpArgs false
def WO (C : Int) (tk : Tkr OpM) : Tkr OpM := fun b => (tk b).bind fun a r => if opB a then .ok a r else .err C
def tkK (S C k : Int) : Tkr OpM :=
 if k = 1 ∨ k = 2 then WO C (cd12 S C k).1 else if k = 3 ∨ k = 4 then WO C (cd34 S C k).1 else if k = 5 then WO C (cd5 S C k).1 else if k = 6 then WO C (cd6 S C k).1 else WO C (cd78 S C k).1
def isK (k : Int) : Bool := decide (1 ≤ k) && decide (k ≤ 8)
def XB (S C : Int) : Tkr OpM := fun b => (((tkN S 1 b).bind fun a r => if isK a then .ok a r else .err C).bind fun a r => (tkK S C a r).bind fun x r => Tk.ok (a, x) r).bind fun a r => .ok a.2 r
end Go.Proofs.YtofklkbfkoliiaaGreat
namespace Go.Proofs.YtofklkbfkoliiaaGreat
set_option linter.unusedVariables false
set_option linter.unusedSimpArgs false
def isM (n : Int) : Bool := decide (n ≤ 64)
def XC (S C : Int) : Tkr (List OpM) := fun b => (((tkN S 1 b).bind fun a r => if isM a then .ok a r else .err C).bind fun a r => (yl (XB S C) a.toNat r).bind fun x r => Tk.ok (a, x) r).bind fun a r => .ok a.2 r
def vX (l : List Int) : List Int := l.flatMap (kO 8)
theorem qaw (S : Int) : Cd S (fun l : List Int => l.length = 8 ∧ ∀ n ∈ l, 0 ≤ n ∧ n < (256 ^ 8 : Nat)) vX (yl (tkN S 8) 8) := (cdN S 8).rep 8
end Go.Proofs.YtofklkbfkoliiaaGreat
namespace Go.Proofs.YtofklkbfkoliiaaGreat
set_option linter.unusedVariables false
set_option linter.unusedSimpArgs false
section
variable {α : Type} {S : Int} {ok : α → Prop} {lay : α → List Int} {tk : Tkr α}
theorem Cd.back (c : Cd S ok lay tk) {b r : List Int} {a : α} (hb : isB b) (h : tk b = .ok a r) : r.length ≤ b.length ∧ b.take (b.length - r.length) = lay a ∧ b.length - r.length = (lay a).length ∧ ok a := by
 obtain ⟨e, k⟩ := c.bwd b a r hb h
 have hl : b.length = (lay a).length + r.length := by rw [e, qbf]
 refine ⟨by omega, ?_, by omega, k⟩
 rw [show b.length - r.length = (lay a).length by omega, e, List.take_append_of_le_length (qby _), qbJ (qby _)]
end
theorem YY : ∀ w n, isB (uZ w n)
 | 0, _ => fun x h => by cases h
 | w + 1, n => fun x h => by
  rw [uZ] at h
  rcases List.mem_cons.1 h with rfl | h
  ·omega
  ·exact YY w n x h
theorem wX (w : Nat) (n : Int) : isB (kO w n) := YY _ _
end Go.Proofs.YtofklkbfkoliiaaGreat
namespace Go.Proofs.YtofklkbfkoliiaaGreat
set_option linter.unusedVariables false
set_option linter.unusedSimpArgs false
def mkV (l : List Int) : Vec := fun i => if 1 ≤ i ∧ i ≤ 8 then (l.getD (i - 1) 0).toNat else 0
def jT (v : Vec) : List Int := [(v 1 : Int), v 2, v 3, v 4, v 5, v 6, v 7, v 8]
def yj (v : Vec) : List Int := vX (jT v)
def YZ (S C : Int) : Tkr Vec := fun b => ((yl (tkN S 8) 8 b).bind fun a r => Tk.ok (mkV a) r).bind fun a r => if vB a then .ok a r else .err C
theorem XD {v : Vec} (h0 : v 0 = 0) (h9 : ∀ i, 9 ≤ i → v i = 0) : mkV (jT v) = v := by
 funext i
 unfold mkV
 by_cases h : 1 ≤ i ∧ i ≤ 8
 ·rw [if_pos h]
  have : i = 1 ∨ i = 2 ∨ i = 3 ∨ i = 4 ∨ i = 5 ∨ i = 6 ∨ i = 7 ∨ i = 8 := by omega
  rcases this with rfl | rfl | rfl | rfl | rfl | rfl | rfl | rfl <;> rfl
 ·rw [if_neg h]
  by_cases e : i = 0
  ·rw [e, h0]
  ·rw [h9 i (by omega)]
theorem XE : ∀ {l : List Int}, l.length = 8 → (∀ n ∈ l, 0 ≤ n) → jT (mkV l) = l
 | [a, b, c, d, e, f, g, h], _, hn => by
  have k : ∀ n ∈ [a, b, c, d, e, f, g, h], ((n.toNat : Nat) : Int) = n := fun n hm => Int.toNat_of_nonneg (hn n hm)
  show [((a.toNat : Nat) : Int), b.toNat, c.toNat, d.toNat, e.toNat, f.toNat, g.toNat, h.toNat] = _
  rw [k a (by simp), k b (by simp), k c (by simp), k d (by simp), k e (by simp), k f (by simp), k g (by simp), k h (by simp)]
theorem XF (S C : Int) : Cd S (fun v : Vec => vB v = true ∧ ∀ i, 9 ≤ i → v i = 0) yj (YZ S C) :=
 (((qaw S).map (ok2 := fun v : Vec => v 0 = 0 ∧ (∀ i, 9 ≤ i → v i = 0) ∧ ∀ i, i < 9 → (v i : Int) < (256 ^ 8 : Nat)) mkV jT
  (fun l h => ⟨XE h.1 fun n hn => (h.2 n hn).1, rfl, fun i hi => if_neg (by omega), fun i hi => by
   unfold mkV
   by_cases e : 1 ≤ i ∧ i ≤ 8
   ·rw [if_pos e]
    have hl : i - 1 < l.length := by rw [h.1]; omega
    rw [qbI, qbe hl]
    have := h.2 _ (List.getElem_mem hl)
    show ((l[i - 1].toNat : Nat) : Int) < _
    rw [Int.toNat_of_nonneg this.1]
    exact this.2
   ·rw [if_neg e]
    decide⟩)
  (fun v h => ⟨⟨rfl, fun n hn => by
   have e : ∃ i, i < 9 ∧ n = (v i : Int) := by
    unfold jT at hn
    simp only [List.mem_cons, List.not_mem_nil, or_false] at hn
    rcases hn with e | e | e | e | e | e | e | e
    ·exact ⟨1, by omega, e⟩
    ·exact ⟨2, by omega, e⟩
    ·exact ⟨3, by omega, e⟩
    ·exact ⟨4, by omega, e⟩
    ·exact ⟨5, by omega, e⟩
    ·exact ⟨6, by omega, e⟩
    ·exact ⟨7, by omega, e⟩
    ·exact ⟨8, by omega, e⟩
   obtain ⟨i, hi, rfl⟩ := e
   exact ⟨Int.natCast_nonneg _, h.2.2 i hi⟩⟩, XD h.1 h.2.1⟩)).need C vB).iff fun v => by
  constructor
  ·intro h
   obtain ⟨a, b⟩ := vB_iff.1 h.1
   refine ⟨⟨a, h.2, fun i hi => ?_⟩, h.1⟩
   have e8 : ((256 ^ 8 : Nat) : Int) = 18446744073709551616 := by decide
   have : v i ≤ 4611686018427387904 := b i hi
   rw [e8]
   omega
  ·exact fun h => ⟨h.2, h.1.2.1⟩
end Go.Proofs.YtofklkbfkoliiaaGreat
namespace Go.Proofs.YtofklkbfkoliiaaGreat
set_option linter.unusedVariables false
set_option linter.unusedSimpArgs false
open Go.RowKit
section
variable {α β γ : Type}
theorem Tk.bind_bind (t : Tk α) (f : α → List Int → Tk β) (g : β → List Int → Tk γ) : (t.bind f).bind g = t.bind fun a r => (f a r).bind g := by cases t <;> rfl
theorem Tk.ok_bind (a : α) (r : List Int) (f : α → List Int → Tk β) : (Tk.ok a r).bind f = f a r := rfl
theorem Tk.err_bind (e : Int) (f : α → List Int → Tk β) : (Tk.err e : Tk α).bind f = .err e := rfl
theorem Tk.if_bind (p : Bool) (s t : Tk α) (f : α → List Int → Tk β) : (if p = true then s else t).bind f = if p = true then s.bind f else t.bind f := by split <;> rfl
theorem Tk.bind_congr {t : Tk α} {f g : α → List Int → Tk β} (h : ∀ a r, f a r = g a r) : t.bind f = t.bind g := by rw [show f = g from funext fun a => funext fun r => h a r]
theorem Tk.bind_ok {t : Tk α} {f : α → List Int → Tk β} {x : β} {r : List Int} (h : t.bind f = .ok x r) : ∃ a q, t = .ok a q ∧ f a q = .ok x r := by
 cases t with
 | ok a q => exact ⟨a, q, rfl, h⟩
 | err e => cases h
theorem Tk.bind_err {t : Tk α} {f : α → List Int → Tk β} {e : Int} (h : t.bind f = .err e) : t = .err e ∨ ∃ a q, t = .ok a q ∧ f a q = .err e := by
 cases t with
 | ok a q => exact .inr ⟨a, q, rfl, h⟩
 | err e' => cases h; exact .inl rfl
end
def okL (l : List Int) : Prop := isB l ∧ l.length ≤ 40000
theorem qax {α : Type} {S : Int} {ok : α → Prop} {lay : α → List Int} {tk : Tkr α} (c : Cd S ok lay tk) {l r : List Int} {a : α} (h : okL l) (e : tk l = .ok a r) : okL r := by
 obtain ⟨h1, _⟩ := c.bwd l a r h.1 e
 refine ⟨(isB_app.1 (h1 ▸ h.1)).2, ?_⟩
 have := h.2
 rw [h1, qbf] at this
 omega
abbrev tN := tkN 110
abbrev tId : Tkr I3 := tkId 110 290
abbrev tCo : Tkr C4 := XA 110
abbrev tSi : Tkr Int := tkSi 110 290
abbrev tSt : Tkr ((Int × Int) × List C4) := tkSt 110 290
abbrev tPl : Tkr Int := tkPl 110
abbrev tOp : Tkr OpM := XB 110 290
abbrev tRow : Tkr (List OpM) := XC 110 290
abbrev yk : Tkr Vec := YZ 110 290
theorem VP {w : Nat} {l r : List Int} {n : Int} (h : okL l) (e : tN w l = .ok n r) : w ≤ l.length ∧ r = l.drop w ∧ n = (k6 (l.take w) 0 : Int) ∧ (0 ≤ n ∧ n < (256 ^ w : Nat)) ∧ okL r := by
 refine ⟨?_, ?_, ?_, ((cdN 110 w).bwd l n r h.1 e).2, qax (cdN 110 w) h e⟩
 all_goals
  unfold tN tkN at e
  split at e
  ·cases e
  ·cases e
   first | omega | rfl
theorem XG {w : Nat} {l : List Int} {e : Int} (h : tN w l = .err e) : l.length < w ∧ e = 110 := by
 unfold tN tkN at h
 split at h
 ·cases h
  exact ⟨by assumption, rfl⟩
 ·cases h
def GM : Nat → List Nat
 | 1 => [0, 1, 2, 3, 4, 5]
 | 2 => [0, 1, 2, 3, 4, 5]
 | 3 => [0, 1, 2, 3, 5]
 | 4 => [0, 1, 2, 3, 5]
 | 5 => [0, 1, 4, 5]
 | 6 => [0, 1, 6]
 | 7 => [7]
 | 8 => [7]
 | _ => []
def tkF (f : Nat) (o : OpM) : Tkr OpM := fun b => match f with
 | 0 => (tPl b).bind fun a r => .ok { o with x := a } r
 | 1 => (tPl b).bind fun a r => .ok { o with y := a } r
 | 2 => (tPl b).bind fun a r => .ok { o with x2 := a } r
 | 3 => (tPl b).bind fun a r => .ok { o with y2 := a } r
 | 4 => (tN 2 b).bind fun a r => .ok { o with sz := a } r
 | 5 => (tCo b).bind fun a r => .ok { o with co := a } r
 | 6 => (tSt b).bind fun a r => .ok { o with sw := a.1.1, sh := a.1.2, px := a.2 } r
 | _ => (tId b).bind fun a r => .ok { o with tg := a } r
def XH : List Nat → OpM → Tkr OpM
 | [], o, b => if opB o then .ok o b else .err 290
 | f :: fs, o, b => (tkF f o b).bind fun o' r => XH fs o' r
def mk0 (k : Int) (i : I3) : OpM := ⟨i, k, 0, 0, 0, 0, 0, zC4, 0, 0, [], zI3⟩
theorem qay (b : List Int) : tOp b = (tN 1 b).bind fun k r => if isK k = true then (tId r).bind fun i r => XH (GM k.toNat) (mk0 k i) r else .err 290 := by
 unfold tOp XB
 simp only [Tk.bind_bind, Tk.if_bind, Tk.ok_bind, Tk.err_bind]
 refine Tk.bind_congr fun k r => ?_
 by_cases hk : isK k = true
 ·rw [if_pos hk, if_pos hk]
  have h8 : 1 ≤ k ∧ k ≤ 8 := by unfold isK at hk; simpa using hk
  have : k = 1 ∨ k = 2 ∨ k = 3 ∨ k = 4 ∨ k = 5 ∨ k = 6 ∨ k = 7 ∨ k = 8 := by omega
  rcases this with rfl | rfl | rfl | rfl | rfl | rfl | rfl | rfl <;>
   simp [tkK, WO, cd12, cd34, cd5, cd6, cd78, GM, XH, tkF, mk0, Tk.bind_bind, Tk.ok_bind, Tk.if_bind, Tk.err_bind]
 ·rw [if_neg hk, if_neg hk]
theorem Hi (b : List Int) : tRow b = (tN 1 b).bind fun a r => if isM a = true then yl tOp a.toNat r else .err 290 := by
 unfold tRow XC
 simp only [Tk.bind_bind, Tk.if_bind, Tk.ok_bind, Tk.err_bind]
 refine Tk.bind_congr fun a r => ?_
 by_cases h : isM a = true
 ·rw [if_pos h, if_pos h]
  cases yl (XB 110 290) a.toNat r <;> rfl
 ·rw [if_neg h, if_neg h]
def vH : Nat → Vec → Tkr Vec
 | 0, v, b => if vB v then .ok v b else .err 290
 | n + 1, v, b => (tN 8 b).bind fun x r => vH n (upV v (8 - n) x.toNat) r
theorem qaz (x1 x2 x3 x4 x5 x6 x7 x8 : Int) : mkV [x1, x2, x3, x4, x5, x6, x7, x8] = upV (upV (upV (upV (upV (upV (upV (upV z9 (8 - 7) x1.toNat) (8 - 6) x2.toNat) (8 - 5) x3.toNat) (8 - 4) x4.toNat) (8 - 3) x5.toNat) (8 - 2) x6.toNat) (8 - 1) x7.toNat) (8 - 0) x8.toNat := by
 funext i
 unfold mkV upV
 have : i = 0 ∨ i = 1 ∨ i = 2 ∨ i = 3 ∨ i = 4 ∨ i = 5 ∨ i = 6 ∨ i = 7 ∨ i = 8 ∨ 9 ≤ i := by omega
 rcases this with rfl | rfl | rfl | rfl | rfl | rfl | rfl | rfl | rfl | h
 all_goals first | rfl | skip
 rw [if_neg (by omega), if_neg (by omega), if_neg (by omega), if_neg (by omega), if_neg (by omega), if_neg (by omega), if_neg (by omega), if_neg (by omega), if_neg (by omega)]
 rfl
theorem xI (b : List Int) : yk b = vH 8 z9 b := by
 unfold yk YZ
 simp only [yl, vH, Tk.bind_bind, Tk.ok_bind]
 refine Tk.bind_congr fun x1 r => Tk.bind_congr fun x2 r => Tk.bind_congr fun x3 r => Tk.bind_congr fun x4 r => Tk.bind_congr fun x5 r => Tk.bind_congr fun x6 r => Tk.bind_congr fun x7 r => Tk.bind_congr fun x8 r => ?_
 rw [qaz]
theorem qaA (b : List Int) : tId b = (tN 8 b).bind fun t r => (tN 1 r).bind fun s r => (tN 8 r).bind fun q r => if xy ⟨t, s, q⟩ = true then .ok ⟨t, s, q⟩ r else .err 290 := by
 unfold tId tkId An
 simp only [Tk.bind_bind, Tk.ok_bind]
theorem qaB (b : List Int) : tCo b = (tN 1 b).bind fun x r => (tN 1 r).bind fun y r => (tN 1 r).bind fun z r => (tN 1 r).bind fun w r => .ok ⟨x, y, z, w⟩ r := by
 unfold tCo XA
 simp only [Tk.bind_bind, Tk.ok_bind]
theorem qaC (b : List Int) : tSt b = (tSi b).bind fun w r => (tSi r).bind fun h r => (yl tCo (w * h).toNat r).bind fun l r => .ok ((w, h), l) r := by
 unfold tSt tkSt
 simp only [Tk.bind_bind, Tk.ok_bind]
theorem Hj {a b : Nat} (ha : a < 72057594037927936) (hb : b < 256) : Wq (a : Int) (b : Int) = ((a * 256 + b : Nat) : Int) := by
 have h := AX (n := a) (b := b) (j := 8) (by omega) (by omega)
 unfold Wq
 rw [IntWalk.u64_in _ (by omega), IntWalk.u64_in _ (by omega), h]
 omega
theorem Y0 : ∀ (l : List Int) (a : Nat), isB l → (a + 1) * 256 ^ l.length ≤ 18446744073709551616 → l.foldl Wq (a : Int) = (k6 l a : Int)
 | [], a, _, _ => rfl
 | x :: l, a, h, hb => by
  have hx := h x (qbR ..)
  have hl : isB l := fun y hy => h y (qbT _ hy)
  have hp : 0 < 256 ^ l.length := KU _
  rw [qbC, Nat.pow_succ] at hb
  have ha : a < 72057594037927936 := by
   have : (a + 1) * 256 ≤ (a + 1) * (256 ^ l.length * 256) := Nat.mul_le_mul_left _ (by omega)
   omega
  obtain ⟨m, rfl⟩ : ∃ m : Nat, x = m := ⟨x.toNat, by omega⟩
  rw [List.foldl_cons, Hj ha (by omega), Y0 l (a * 256 + m) hl ?_]
  ·unfold k6
   rw [List.foldl_cons, qbS]
  ·have : (a * 256 + m + 1) * 256 ^ l.length ≤ ((a + 1) * 256) * 256 ^ l.length := Nat.mul_le_mul_right _ (by omega)
   rw [Nat.mul_assoc (a + 1), Nat.mul_comm 256] at this
   omega
theorem ur {w : Nat} {l : List Int} (h : isB l) (hw : w ≤ 8) (hl : w ≤ l.length) : kw w l = (k6 (l.take w) 0 : Int) := by
 unfold kw
 refine Y0 (l.take w) 0 (fun x hx => h x (List.mem_of_mem_take hx)) ?_
 rw [qbD, Nat.min_eq_left hl, qbh, Nat.one_mul]
 exact qbE (Nat.pow_le_pow_right (n := 256) (by decide) hw) (by decide)
theorem XI {n : Int} (hn : 0 ≤ n) (w : Nat) : uS n w = kO w n := by
 obtain ⟨m, rfl⟩ : ∃ m : Nat, n = m := ⟨n.toNat, by omega⟩
 unfold kO
 rw [qbS]
 induction w with
 | zero => rfl
 | succ w ih => rw [Ws, ih]; rfl
theorem Y1 {w : Nat} {n : Int} (hw : 1 ≤ w ∧ w ≤ 8) (hn : 0 ≤ n) : wh w n = kO w n := by rw [Wt n w hw, XI hn]
theorem XJ {w : Nat} {n : Int} (hn : 0 ≤ n ∧ n < (256 ^ w : Nat)) : JK w n = true := by
 have e : n / 2 ^ (8 * w) = 0 := Int.ediv_eq_zero_of_lt hn.1 (by
  rw [Int.pow_mul]
  have h2 := hn.2
  rw [Int.natCast_pow] at h2
  exact h2)
 unfold JK
 rw [e]
 simp
theorem kP (w : Nat) (n : Int) : (kO w n).length = w := xG _ _
theorem qaD {w : Nat} {l r : List Int} {n : Int} (h : okL l) (hw : w ≤ 8) (e : tN w l = .ok n r) : w ≤ l.length ∧ r = l.drop w ∧ n = kw w l ∧ (0 ≤ n ∧ n < (256 ^ w : Nat)) ∧ okL r := by
 obtain ⟨h1, h2, h3, h4, h5⟩ := VP h e
 exact ⟨h1, h2, by rw [h3, ur h.1 hw h1], h4, h5⟩
theorem Ao {k : Nat} {x : Mem} : (qbs k Mem.gone ++ [x])[k]? = some x := by
 rw [qbG (by rw [qbv]; omega), qbv, Nat.sub_self]
 rfl
theorem qaE {k : Nat} {x : Mem} : (qbs k Mem.gone ++ [x]).length = k + 1 := by
 rw [qbf, qbv]
 rfl
theorem qaF {k : Nat} {x : Mem} : (qbs k Mem.gone ++ [x]).set k .gone = qbs (k + 1) Mem.gone := by
 rw [List.set_append_right _ _ (by rw [qbv]; omega), qbv, Nat.sub_self, List.replicate_succ']
 rfl
abbrev fmY (k : Nat) (l : List Int) : Blk := .fam (qbs k .gone ++ [.arr 5 1 l.length (l.flatMap uc8)])
theorem fm_eq {k m m' : Nat} {x : Mem} {L L' : List Value} (h : m = m') (h' : L = L') : some (Blk.fam ((qbs k Mem.gone ++ [x]).set k .gone ++ [.arr 5 1 m L])) = some (Blk.fam (qbs (k + 1) .gone ++ [.arr 5 1 m' L'])) := by
 rw [qaF, h, h']
theorem qaG {k : Nat} {x : Mem} {l l2 : List Int} : some (Blk.fam ((qbs k Mem.gone ++ [x]).set k .gone ++ [.arr 5 1 (l.length + l2.length) (l.flatMap uc8 ++ l2.flatMap uc8)])) = some (fmY (k + 1) (l ++ l2)) := fm_eq (by rw [qbf]) (by rw [List.flatMap_append])
theorem Ap {w : Nat} {l r : List Int} {n : Int} (h : okL l) (e : tN w l = .ok n r) : okL r := (VP h e).2.2.2.2
theorem Hk {l : List Int} (h : okL l) : l.length ≤ 2000000 := qbE h.2 (by decide)
theorem Hl {j : Nat} (hj : j < 8) {u v : Vec} {l r : List Int} (h : vH (8 - j) u l = .ok v r) : ∃ n q, tN 8 l = .ok n q ∧ vH (8 - (j + 1)) (upV u (j + 1) n.toNat) q = .ok v r := by
 rw [show 8 - j = (8 - (j + 1)) + 1 by omega] at h
 obtain ⟨n, q, h1, h2⟩ := Tk.bind_ok h
 rw [show 8 - (8 - (j + 1)) = j + 1 by omega] at h2
 exact ⟨n, q, h1, h2⟩
theorem Hm {j : Nat} (hj : j < 8) {u : Vec} {l : List Int} {e : Int} (h : vH (8 - j) u l = .err e) : tN 8 l = .err e ∨ ∃ n q, tN 8 l = .ok n q ∧ vH (8 - (j + 1)) (upV u (j + 1) n.toNat) q = .err e := by
 rw [show 8 - j = (8 - (j + 1)) + 1 by omega] at h
 rcases Tk.bind_err h with h1 | ⟨n, q, h1, h2⟩
 ·exact .inl h1
 ·rw [show 8 - (8 - (j + 1)) = j + 1 by omega] at h2
  exact .inr ⟨n, q, h1, h2⟩
theorem XK {j : Nat} (hj : ¬ j < 8) {u v : Vec} {l r : List Int} (h : vH (8 - j) u l = .ok v r) : vB v = true ∧ u = v ∧ l = r := by
 rw [show 8 - j = 0 by omega] at h
 unfold vH at h
 split at h
 ·cases h
  exact ⟨by assumption, rfl, rfl⟩
 ·cases h
theorem VQ {j : Nat} (hj : ¬ j < 8) {u : Vec} {l : List Int} {e : Int} (h : vH (8 - j) u l = .err e) : vB u = false ∧ e = 290 := by
 rw [show 8 - j = 0 by omega] at h
 unfold vH at h
 split at h
 ·cases h
 ·cases h
  exact ⟨by simpa using ‹¬ vB u = true›, rfl⟩
def Er {α : Type} (t : Tk α) : Prop := ∀ e, t = .err e → e = 110 ∨ e = 290
theorem Er.ok {α : Type} {a : α} {r : List Int} : Er (Tk.ok a r) := fun e h => by cases h
theorem Er.e1 {α : Type} : Er (Tk.err 110 : Tk α) := fun e h => by cases h; exact .inl rfl
theorem Er.e2 {α : Type} : Er (Tk.err 290 : Tk α) := fun e h => by cases h; exact .inr rfl
theorem Er.bind {α β : Type} {t : Tk α} {f : α → List Int → Tk β} (h : Er t) (k : ∀ a r, Er (f a r)) : Er (t.bind f) := fun e he => by
 rcases Tk.bind_err he with h1 | ⟨a, q, _, h2⟩
 ·exact h e h1
 ·exact k a q e h2
theorem Er.ite {α : Type} {p : Bool} {s t : Tk α} (h : Er s) (k : Er t) : Er (if p = true then s else t) := by
 split
 ·exact h
 ·exact k
theorem Er.N (w : Nat) (b : List Int) : Er (tN w b) := fun e h => .inl (XG h).2
theorem Er.rep {α : Type} {tk : Tkr α} (h : ∀ b, Er (tk b)) : ∀ n b, Er (yl tk n b)
 | 0, b => Er.ok
 | n + 1, b => Er.bind (h b) fun a r => Er.bind (Er.rep h n r) fun l r => Er.ok
theorem Er.I (b : List Int) : Er (tId b) := by
 rw [qaA]
 exact Er.bind (Er.N 8 b) fun _ r => Er.bind (Er.N 1 r) fun _ r => Er.bind (Er.N 8 r) fun _ r => Er.ite Er.ok Er.e2
theorem Er.C (b : List Int) : Er (tCo b) := by
 rw [qaB]
 exact Er.bind (Er.N 1 b) fun _ r => Er.bind (Er.N 1 r) fun _ r => Er.bind (Er.N 1 r) fun _ r => Er.bind (Er.N 1 r) fun _ r => Er.ok
theorem Er.S (b : List Int) : Er (tSt b) := by
 rw [qaC]
 exact Er.bind (Er.bind (Er.N 1 b) fun _ r => Er.ite Er.ok Er.e2) fun _ r => Er.bind (Er.bind (Er.N 1 r) fun _ r => Er.ite Er.ok Er.e2) fun _ r => Er.bind (Er.rep Er.C _ r) fun _ r => Er.ok
theorem Er.V (b : List Int) : Er (yk b) := by
 rw [xI]
 have go : ∀ n v b, Er (vH n v b) := fun n => by
  induction n with
  | zero => exact fun v b => Er.ite Er.ok Er.e2
  | succ n ih => exact fun v b => Er.bind (Er.N 8 b) fun x r => ih _ r
 exact go 8 z9 b
theorem Er.F (f : Nat) (o : OpM) (b : List Int) : Er (tkF f o b) := by
 unfold tkF
 split
 ·exact Er.bind (Er.bind (Er.N 1 b) fun _ _ => Er.ok) fun _ _ => Er.ok
 ·exact Er.bind (Er.bind (Er.N 1 b) fun _ _ => Er.ok) fun _ _ => Er.ok
 ·exact Er.bind (Er.bind (Er.N 1 b) fun _ _ => Er.ok) fun _ _ => Er.ok
 ·exact Er.bind (Er.bind (Er.N 1 b) fun _ _ => Er.ok) fun _ _ => Er.ok
 ·exact Er.bind (Er.N 2 b) fun _ _ => Er.ok
 ·exact Er.bind (Er.C b) fun _ _ => Er.ok
 ·exact Er.bind (Er.S b) fun _ _ => Er.ok
 ·exact Er.bind (Er.I b) fun _ _ => Er.ok
theorem Er.Fs : ∀ fs o b, Er (XH fs o b)
 | [], o, b => Er.ite Er.ok Er.e2
 | f :: fs, o, b => Er.bind (Er.F f o b) fun o' r => Er.Fs fs o' r
theorem Er.O (b : List Int) : Er (tOp b) := by
 rw [qay]
 exact Er.bind (Er.N 1 b) fun k r => Er.ite (Er.bind (Er.I r) fun i r => Er.Fs _ _ r) Er.e2
theorem Er.R (b : List Int) : Er (tRow b) := by
 rw [Hi]
 exact Er.bind (Er.N 1 b) fun k r => Er.ite (Er.rep Er.O _ r) Er.e2
end Go.Proofs.YtofklkbfkoliiaaGreat
namespace Go.Proofs.YtofklkbfkoliiaaGreat
set_option linter.unusedVariables false
set_option linter.unusedSimpArgs false
open Go.RowKit
theorem qaH (w : Nat) (n : Int) (hw : 1 ≤ w ∧ w ≤ 8) (hn : 0 ≤ n ∧ n < (256 ^ w : Nat)) : DFun Tryz.prog 108 [.slf 1 0 [], .val (.int .i64 (w : Int)), .val (.int .u64 n)] [] (.tup [.slf 1 (kO w n).length ((kO w n).flatMap uc8), .val (.int .i64 0)]) [] := by
 have h := Z1 [] w n (by decide) hw (XJ hn)
 rw [qbq, Y1 hw hn.1] at h
 exact h
theorem qaI (o : OpM) (k : Nat) (l : List Int) (w : Nat) (n : Int) (hw : 1 ≤ w ∧ w ≤ 8) (hn : 0 ≤ n ∧ n < (256 ^ w : Nat)) (hl : l.length ≤ 50000) : DFun Tryz.prog 85 [.loc 0 0, .val (.int .i64 (w : Int)), .val (.int .u64 n)] [.mix 140 (opD o ++ [.farr 1 k]), fmY k (l)] (.tup []) [.mix 140 (opD o ++ [.farr 1 (k + 1)]), fmY (k + 1) (l ++ kO w n)] := by
 refine zap (N := 23) 2 (by kernel_rfl) Tryz.func85 rfl rfl rfl (by simp only [fr0, qbh, qbj]; exact rfl) rfl fun s0 hs0 => ?_
 refine zai ?_
 refine zaa 2 rfl ?_
 refine za rfl (zak [] [] [] rfl (ev1 rfl) (ec (Kv 1 (ev1 rfl)) (ec (ev1 rfl) (ec (ev1 rfl) en))) rfl rfl (qaH w n hw hn) rfl rfl rfl rfl rfl rfl) ?_
 refine zaa 5 rfl ?_
 refine zab ?_
 have hlw := kP w n
 refine zam 2 ?_
 refine zac ?_
 refine zaa 2 rfl ?_
 refine za rfl (qC rfl (ev1 rfl) (fun s v h => by cases h; exact ⟨_, rfl⟩)) ?_
 refine za rfl (zas rfl GI (ev1 rfl)) ?_
 refine za rfl (zat rfl jg (ev1 rfl) rfl rfl) ?_
 refine zaa 1 rfl ?_
 refine zal rfl ((Vx (j1 := 2) (j2 := 3) rfl rfl qg zr5 rfl (ev1 rfl) (ev1 rfl) rfl (Ao) rfl rfl rfl (fun _ => jF (fun _ => rfl) _) (fun _ => ⟨by omega, by omega⟩)).cast (d' := .farr 1 (k + 1)) (by rw [qaE])) ?_
 refine za rfl (qC rfl (ev1 rfl) (fun s v h => by cases h; exact ⟨_, rfl⟩)) ?_
 refine za rfl (zas rfl GI (ev1 rfl)) ?_
 refine zaq rfl (kQ rfl jg (ev1 rfl) (ev1 rfl) (fun s v h => by cases h <;> exact ⟨rfl, rfl⟩) rfl (by first | decide | exact qbr rfl | simp)) ?_
 refine zab ?_
 refine km [0, 1] (qI rfl) rfl rfl ?_ ⟨?_, ?_, trivial⟩
 rfl
 rfl
 exact qaG
theorem qaJ {k k' : Nat} {l l' : List Int} (h : k = k') (h' : l = l') : some (fmY k l) = some (fmY k' l') := by rw [h, h']
end Go.Proofs.YtofklkbfkoliiaaGreat
namespace Go.Proofs.YtofklkbfkoliiaaGreat
set_option linter.unusedVariables false
set_option linter.unusedSimpArgs false
open Go.RowKit
theorem XL {σ : List Nat} {V : Nat → Bool} {M : List Blk} {Bs : List Mem} {e : TypeId} {j k sz m : Nat} {L : List Value} (hpj : pos σ j = none) (hVj : V j = true) (hMj : M[j]? = some (.fam Bs)) (hB : Bs[k]? = some (.arr e sz m L)) : vw σ V M (.farr j k) = some (.slf sz m L) := by
 unfold vw
 rw [hpj]
 show vC V M j k = _
 unfold vC
 rw [hVj, hMj]
 show (match Bs[k]? with | some (.arr _ sz n L) => some (D.slf sz n L) | _ => none) = _
 rw [hB]
theorem Hn (o : OpM) (k : Nat) (l : List Int) (hl : l.length ≤ 50000) : DFun Tryz.prog 86 [.loc 0 0] [.mix 140 (opD o ++ [.farr 1 k]), fmY k (l)] (.arr 2) [.mix 140 (opD o ++ [.farr 1 k]), fmY k (l), .arr 5 1 (l).length ((l).flatMap uc8)] := by
 refine zap (N := 8) 2 (by kernel_rfl) Tryz.func86 rfl rfl rfl (by simp only [fr0, qbh, qbj]; exact rfl) rfl fun s0 hs0 => ?_
 refine zai ?_
 refine zaa 1 rfl ?_
 refine zab ?_
 refine zad ?_
 refine zam 1 ?_
 refine zac ?_
 refine zaa 1 rfl ?_
 refine za rfl (qC rfl (ev1 rfl) (fun s v h => by cases h; exact ⟨_, rfl⟩)) ?_
 refine za rfl (zas rfl GI (ev1 rfl)) ?_
 refine za rfl (zat rfl jg (ev1 rfl) rfl rfl) ?_
 refine zal rfl (zak [] [1] [2] rfl (ev1 rfl) (ec (ev1 rfl) en) (ul (XL rfl rfl rfl Ao) rfl) rfl (Xu l (by omega)) rfl rfl rfl rfl rfl rfl) ?_
 refine zaa 1 rfl ?_
 refine zab ?_
 refine zau ?_
 refine km [0, 1, 2] (rs1 rfl (qB rfl)) rfl rfl ?_ ⟨rfl, rfl, rfl, trivial⟩
 rfl
def zO : OpM := ⟨zI3, 0, 0, 0, 0, 0, 0, zC4, 0, 0, [], zI3⟩
theorem wkZ : WkL ([.int .u64 0, .int .i64 0, .int .u64 0, .int .i64 0, .int .i64 0, .int .i64 0, .int .i64 0, .int .i64 0, .int .i64 0, .int .u8 0, .int .u8 0, .int .u8 0, .int .u8 0, .int .i64 0, .int .i64 0, .slice none 0 0, .int .u64 0, .int .i64 0, .int .u64 0, .slice none 0 0].map D.val) (opD zO ++ [.val (.slice none 0 0)]) :=
 WkL.cons (Wk.refl _) (WkL.cons (Wk.refl _) (WkL.cons (Wk.refl _) (WkL.cons (Wk.refl _) (WkL.cons (Wk.refl _) (WkL.cons (Wk.refl _) (WkL.cons (Wk.refl _) (WkL.cons (Wk.refl _) (WkL.cons (Wk.refl _) (WkL.cons (Wk.refl _) (WkL.cons (Wk.refl _) (WkL.cons (Wk.refl _) (WkL.cons (Wk.refl _) (WkL.cons (Wk.refl _) (WkL.cons (Wk.refl _) (WkL.cons (Wk.slf0 4) (WkL.cons (Wk.refl _) (WkL.cons (Wk.refl _) (WkL.cons (Wk.refl _) (WkL.cons (Wk.refl _) (WkL.nil))))))))))))))))))))
theorem VR {v : Vec} (hv : vB v = true) {n : Int} (h : n ∈ jT v) : 0 ≤ n ∧ n < (256 ^ 8 : Nat) := by
 have e8 : ((256 ^ 8 : Nat) : Int) = 18446744073709551616 := by decide
 rw [e8]
 have h9 := (vB_iff.1 hv).2
 unfold jT at h
 simp only [List.mem_cons, List.not_mem_nil, or_false] at h
 have a1 := h9 1 (by decide)
 have a2 := h9 2 (by decide)
 have a3 := h9 3 (by decide)
 have a4 := h9 4 (by decide)
 have a5 := h9 5 (by decide)
 have a6 := h9 6 (by decide)
 have a7 := h9 7 (by decide)
 have a8 := h9 8 (by decide)
 unfold LAST at a1 a2 a3 a4 a5 a6 a7 a8
 rcases h with h | h | h | h | h | h | h | h <;> subst h <;> omega
theorem zg (l : List Int) : (vX l).length = 8 * l.length := by
 unfold vX
 induction l with
 | nil => rfl
 | cons a l ih => rw [qbB, qbf, ih, kP, qbC]; omega
theorem u0 {l : List Int} {j : Nat} (h : j < l.length) : vX (l.take (j + 1)) = vX (l.take j) ++ kO 8 l[j] := by
 unfold vX
 rw [qbK h, List.flatMap_append]
 simp
theorem qaK (v : Vec) (hv : vB v = true) : DFun Tryz.prog 50 [.val (.agg (c9 v).toArray)] [] (.tup [.arr 0, .val (.int .i64 0)]) [.arr 5 1 (yj v).length ((yj v).flatMap uc8)] := by
 refine zap (N := 26) 0 (by kernel_rfl) Tryz.func50 rfl rfl rfl (by simp only [fr0, qbh, qbj]; exact rfl) rfl fun s0 hs0 => ?_
 refine zad ?_
 refine zam 1 ?_
 refine zac ?_
 refine zal rfl (j8 0 rfl (ev1 rfl) rfl) ?_
 refine zaa 2 rfl ?_
 refine zab ?_
 refine zad ?_
 refine zai ?_
 refine za rfl (qL rfl jx (ev1 rfl) rfl rfl) ?_
 refine za rfl (zak [] [] [] rfl (ev1 rfl) (ec (ev1 rfl) en) rfl rfl (xC v) rfl rfl rfl rfl rfl rfl) ?_
 refine zaa 1 rfl ?_
 refine zab ?_
 refine zai ?_
 refine zaa 1 rfl ?_
 refine za rfl (qV rfl (ev1 rfl) (ev1 rfl)) ?_
 refine zab ?_
 refine qf rfl (by rw [hv]; rfl) ?_
 refine zao ?_
 refine zad ?_
 refine zam 1 ?_
 refine zac ?_
 refine zal rfl (zan 1 rfl zr140 rfl) ?_
 refine zab ?_
 refine zad ?_
 refine jf 1 yO rfl rfl (by simp only [qbp, qbq, zaf, zag, List.map]; exact rfl) ?_
 refine jf 1 (KB wkZ) rfl rfl (by simp only [qbp, qbq, zaf, zag, List.map]; exact rfl) ?_
 refine we (l' := opD zO ++ [.arr 2]) 1 19 5 1 rfl rfl rfl rfl (by simp only [qbp, qbq, zaf, zag, qbC, qbQ, qbh, qbj]; exact rfl) ?_
 refine jf 2 GD rfl rfl (by simp only [qbp, qbq, zaf, zag, qbC, qbQ, qbh, qbj]; exact rfl) ?_
 refine vd ?_
 refine Vw 3 rfl (by simp only [qbp, qbq, zaf, zag, qbC, qbQ, qbh, qbj]; exact rfl) ?_
 refine YB 1 19 3 rfl rfl rfl rfl (by simp only [qbp, qbq, zaf, zag, qbC, qbQ, qbh, qbj]; exact rfl) ?_
 refine zac ?_
 refine za rfl (ki rfl (ec (ev1 rfl) en) en) ?_
 refine zaa 1 rfl ?_
 refine zab ?_
 refine zad ?_
 refine zad ?_
 refine Yr ⟨hs0, rfl⟩ [1, 3] [0] [(1, _), (2, _), (3, _), (5, _), (6, _)] [_, _] rfl ⟨rfl, rfl, rfl, rfl, rfl, trivial⟩ ⟨rfl, rfl, trivial⟩ ?_
 refine zac ?_
 refine za rfl (ZI (p := 1) (q := 9) rfl YD (wQ (ev1 rfl) (Wk.of_eq (show D.dpf (c9 v) = D.dpf ((((v 0 : Nat) : Int) :: jT v).flatMap uc) from rfl))) (qR (ev1 rfl)) xj (fun _ => rfl) (fun _ => rfl) (fun _ => by decide) (rfl) (by decide) (fun _ => rfl)) ?_
 refine za rfl ((qm rfl JL (ev1 rfl)).cast (d' := .val (.int .i64 8)) (by rfl)) ?_
 refine zaa 1 rfl ?_
 refine zab ?_
 refine zav ?_
 refine A6 15 rfl (Wk.of_eq (show _ = .slf 1 (jT v).length ((jT v).flatMap uc) from rfl)) ?_
 refine qE ⟨hs0, rfl⟩ (α := Nat) (fun j => [(17, .val (.int .i64 (j : Int)))]) [(5, _), (6, _), (15, _), (16, _)] (fun j => [(0, .mix 140 (opD zO ++ [.farr 1 j])), (1, fmY j (vX ((jT v).take j)))]) [.hole, .hole] (fun j => j ≤ 8) (fun j => 8 - j) 0 [0, 1] (by omega) rfl ⟨rfl, rfl, rfl, rfl, trivial⟩ ⟨rfl, trivial⟩ ⟨rfl, rfl, trivial⟩ ?_
 intro j hx
 simp only [upd, zaf, zag, qbp, qbq]
 have hj := hx
 have hn8 : (jT v).length = 8 := rfl
 have hlj := zg ((jT v).take j)
 rw [qbD] at hlj
 refine zai ?_
 refine za rfl (qq rfl (ev1 rfl) (ev1 rfl)) ?_
 refine zab ?_
 refine zad ?_
 refine qi rfl (fun c2 => ?_) (fun c2 => ?_)
 ·try simp only [decide_eq_true_eq, decide_eq_false_iff_not, beq_iff_eq, bne_iff_ne, beq_eq_false_iff_ne, bne_eq_false_iff_eq, qbl, qbm, qbi, qbo, qbk, ne_eq, Decidable.not_not, qbz, qbA] at c2
  refine zao ?_
  refine zad ?_
  refine zav ?_
  refine zai ?_
  refine za rfl (qu (l := jT v) (en := uc) (j := j) rfl JL (ev1 rfl) (ev1 rfl) (fun _ => rfl) (by decide) (by omega) (by rw [hn8]; omega)) ?_
  refine za rfl (qk rfl kC (ev1 rfl) rfl) ?_
  refine zaa 1 rfl ?_
  refine zab ?_
  refine zac ?_
  refine zaa 2 rfl ?_
  refine zal rfl (zak [0, 1] [] [] rfl (ev1 rfl) (ec (ev1 rfl) (ec (ev1 rfl) en)) rfl rfl (qaI zO j (vX ((jT v).take j)) 8 (jT v)[j] (by decide) (VR hv (List.getElem_mem _)) (by omega)) rfl rfl rfl rfl rfl rfl) ?_
  refine zab ?_
  refine zac ?_
  refine za rfl (qc rfl (ev1 rfl) (ev1 rfl) (fun _ => qbg _ (by omega))) ?_
  refine zaa 1 rfl ?_
  refine zab ?_
  refine ⟨j + 1, [0, 1], by omega, by simp only []; omega, rfl, ⟨rfl, rfl, rfl, rfl, rfl, trivial⟩, ⟨rfl, qaJ rfl (by rw [u0 (by rw [hn8]; omega)]), trivial⟩⟩
 ·try simp only [decide_eq_true_eq, decide_eq_false_iff_not, beq_iff_eq, bne_iff_ne, beq_eq_false_iff_ne, bne_eq_false_iff_eq, qbl, qbm, qbi, qbo, qbk, ne_eq, Decidable.not_not, qbz, qbA] at c2
  refine qz ?_
  refine zad ?_
  obtain rfl : j = 8 := by omega
  refine zam 1 ?_
  refine zac ?_
  refine zal rfl (zak [0, 1] [] [2] rfl (ev1 rfl) (ec (ev1 rfl) en) rfl rfl (Hn zO (8) (vX ((jT v).take 8)) (by omega)) rfl rfl rfl rfl rfl rfl) ?_
  refine zaa 2 rfl ?_
  refine zab ?_
  refine zau ?_
  refine km [2] (rs2 rfl (qB rfl) (qB rfl)) rfl rfl ?_ ⟨rfl, trivial⟩
  rfl
end Go.Proofs.YtofklkbfkoliiaaGreat
namespace Go.Proofs.YtofklkbfkoliiaaGreat
set_option linter.unusedVariables false
set_option linter.unusedSimpArgs false
open Go.RowKit
attribute [local irreducible] tkN k6 kw
theorem XM : DFun Tryz.prog 115 [.val .nilIface] [] (.val (.int .i64 0)) [] := by
 refine zap (N := 13) 0 (by kernel_rfl) Tryz.func115 rfl rfl rfl (by simp only [fr0, qbh, qbj]; exact rfl) rfl fun s0 hs0 => ?_
 refine zai ?_
 refine zaa 1 rfl ?_
 refine zab ?_
 refine zad ?_
 refine zad ?_
 refine zam 1 ?_
 refine zac ?_
 refine zaa 1 rfl ?_
 refine za rfl (Gr rfl U5 zv203 (ev1 rfl)) ?_
 refine zaa 3 rfl ?_
 refine zal rfl (zan 0 rfl U8 rfl) ?_
 refine zaq rfl (qr rfl Ag (ev1 rfl) (ev1 rfl) rfl rfl rfl rfl) ?_
 refine zaa 1 rfl ?_
 refine zab ?_
 refine zai ?_
 refine zaa 1 rfl ?_
 refine zab ?_
 refine qf rfl (rfl) ?_
 refine zao ?_
 refine zai ?_
 refine zaa 1 rfl ?_
 refine zab ?_
 refine zau ?_
 refine qo (rs1 rfl (qB rfl)) rfl ?_
 rfl
theorem Ho (n : Int) : DFun Tryz.prog 115 [.ifc 203 (.val (.agg #[.int .i64 n]))] [] (.val (.int .i64 n)) [] := by
 refine zap (N := 13) 0 (by kernel_rfl) Tryz.func115 rfl rfl rfl (by simp only [fr0, qbh, qbj]; exact rfl) rfl fun s0 hs0 => ?_
 refine zai ?_
 refine zaa 1 rfl ?_
 refine zab ?_
 refine zad ?_
 refine zad ?_
 refine zam 1 ?_
 refine zac ?_
 refine zaa 1 rfl ?_
 refine za rfl (Gq rfl U5 (ev1 rfl)) ?_
 refine zaa 3 rfl ?_
 refine zal rfl (zan 0 rfl U8 rfl) ?_
 refine zaq rfl (qr rfl Ag (ev1 rfl) (ev1 rfl) rfl rfl rfl rfl) ?_
 refine zaa 1 rfl ?_
 refine zab ?_
 refine zai ?_
 refine zaa 1 rfl ?_
 refine zab ?_
 refine qt rfl (rfl) ?_
 refine zai ?_
 refine za rfl (zas rfl ZZ (ev1 rfl)) ?_
 refine za rfl (qx rfl kc (ev1 rfl) rfl rfl) ?_
 refine zaa 1 rfl ?_
 refine zab ?_
 refine zau ?_
 refine qo (rs1 rfl (qB rfl)) rfl ?_
 rfl
theorem xJ (b : Bool) (e : Int) (h : b = true) : DFun Tryz.prog 117 [.val (.bool b), .val (.int .i64 e)] [] (.tup []) [] := by
 refine zap (N := 9) 0 (by kernel_rfl) Tryz.func117 rfl rfl rfl (by simp only [fr0, qbh, qbj]; exact rfl) rfl fun s0 hs0 => ?_
 refine zai ?_
 refine zaa 1 rfl ?_
 refine za rfl (ku rfl (ev1 rfl)) ?_
 refine zab ?_
 refine qf rfl (by simp [h]) ?_
 refine zao ?_
 refine qo (qI rfl) rfl ?_
 rfl
theorem Y2 (b : Bool) (e : Int) (h : b = false) : DPan Tryz.prog 117 [.val (.bool b), .val (.int .i64 e)] [] (.ifc 203 (.val (.agg #[.int .i64 e]))) [] := by
 refine zap (N := 9) 0 (by kernel_rfl) Tryz.func117 rfl rfl rfl (by simp only [fr0, qbh, qbj]; exact rfl) rfl fun s0 hs0 => ?_
 refine zai ?_
 refine zaa 1 rfl ?_
 refine za rfl (ku rfl (ev1 rfl)) ?_
 refine zab ?_
 refine qt rfl (by simp [h]) ?_
 refine zac ?_
 refine zaa 1 rfl ?_
 refine za rfl (kJ (ps := [(0, .tmp 6)]) rfl fl203 U8 (vc (ev1 rfl) vn) rfl rfl) ?_
 refine za rfl (zr rfl U5 (ev1 rfl)) ?_
 refine kz rfl (wM rfl (ev1 rfl)) rfl ?_
 refine Um rfl ?_
 rfl
theorem zW (L : List Int) (e : Int) : DFun Tryz.prog 131 [.dpm [.slf 1 (L).length ((L).flatMap uc8), .val (.int .i64 e)]] [] (.val (.int .i64 e)) [] := by
 refine zap (N := 10) 0 (by kernel_rfl) Tryz.func131 rfl rfl rfl (by simp only [fr0, qbh, qbj]; exact rfl) rfl fun s0 hs0 => ?_
 refine zai ?_
 refine zaa 1 rfl ?_
 refine zab ?_
 refine zad ?_
 refine zai ?_
 refine zaa 1 rfl ?_
 refine za rfl (Yw rfl VG (ev1 rfl)) ?_
 refine zab ?_
 refine qf rfl (rfl) ?_
 refine zao ?_
 refine zai ?_
 refine zaa 1 rfl ?_
 refine za rfl (qC rfl (ev1 rfl) (fun s v h => by cases h; exact ⟨_, rfl⟩)) ?_
 refine za rfl (zN rfl gH (ev1 rfl)) ?_
 refine za rfl (zN rfl yQ (ev1 rfl)) ?_
 refine za rfl (gY rfl kc (ev1 rfl) rfl) ?_
 refine zaa 1 rfl ?_
 refine zab ?_
 refine zau ?_
 refine qo (rs1 rfl (qB rfl)) rfl ?_
 rfl
theorem VS (o : OpM) (L : List Int) (hL : okL L) (w : Nat) (hw : 1 ≤ w ∧ w ≤ 8) (n : Int) (r : List Int) (h : tN w L = .ok n r) : DFun Tryz.prog 119 [.loc 0 0, .val (.int .i64 (w : Int))] [.mix 178 (.loc 1 0 :: opD o), .mix 206 [.slf 1 (L).length ((L).flatMap uc8), .val (.int .i64 0)]] (.val (.int .u64 n)) [.mix 178 (.loc 1 0 :: opD o), .mix 206 [.slf 1 (r).length ((r).flatMap uc8), .val (.int .i64 0)]] := by
 refine zap (N := 25) 2 (by kernel_rfl) Tryz.func119 rfl rfl rfl (by simp only [fr0, qbh, qbj]; exact rfl) rfl fun s0 hs0 => ?_
 refine zad ?_
 obtain ⟨h1, h2, h3, h4, h5⟩ := qaD hL hw.2 h
 subst h2 h3
 refine zac ?_
 refine zaa 1 rfl ?_
 refine zab ?_
 refine zai ?_
 refine zaa 1 rfl ?_
 refine za rfl (qC rfl (ev1 rfl) (fun s v h => by cases h; exact ⟨_, rfl⟩)) ?_
 refine za rfl (zas rfl wj (ev1 rfl)) ?_
 refine za rfl (zat rfl gA (ev1 rfl) rfl rfl) ?_
 refine zaa 1 rfl ?_
 refine zal rfl (zak [1] [] [] rfl (ev1 rfl) (ec (ev1 rfl) (ec (ev1 rfl) en)) rfl rfl (Hh L (Hk hL) w hw h1) rfl rfl rfl rfl rfl rfl) ?_
 refine zaa 1 rfl ?_
 refine zab ?_
 refine zad ?_
 refine qh [([], []), ([], []), ([], []), ([0], []), ([1], []), ([], []), ([], []), ([], []), ([], []), ([0], []), ([1], []), ([], [])] qJ (by kernel_rfl) ?_
 refine zae rfl rfl (zaj (.inl rfl) (ev1 rfl)) ?_
 refine zae rfl rfl (qC rfl (ev1 rfl) (fun s v h => by cases h; exact ⟨_, rfl⟩)) ?_
 refine zae rfl rfl (zas rfl wj (ev1 rfl)) ?_
 refine zae rfl rfl (zat rfl gA (ev1 rfl) rfl rfl) ?_
 refine zae rfl rfl (zak [] [1] [] rfl (ev1 rfl) (ec (ev1 rfl) en) rfl rfl (zW (L.drop w) (0)) rfl rfl rfl rfl rfl rfl) ?_
 refine zae rfl rfl (qj rfl (ev1 rfl) (ev1 rfl)) ?_
 refine zae rfl rfl (zaj (.inl rfl) (ev1 rfl)) ?_
 refine zae rfl rfl (qC rfl (ev1 rfl) (fun s v h => by cases h; exact ⟨_, rfl⟩)) ?_
 refine zae rfl rfl (zas rfl wj (ev1 rfl)) ?_
 refine zae rfl rfl (zat rfl gA (ev1 rfl) rfl rfl) ?_
 refine zae rfl rfl (zak [] [1] [] rfl (ev1 rfl) (ec (ev1 rfl) en) rfl rfl (zW (L.drop w) (0)) rfl rfl rfl rfl rfl rfl) ?_
 refine zae rfl rfl (zak [] [] [] rfl (ev1 rfl) (ec (ev1 rfl) (ec (ev1 rfl) en)) rfl rfl (xJ _ _ (rfl)) rfl rfl rfl rfl rfl rfl) ?_
 refine ql ?_
 refine zai ?_
 refine zaa 2 rfl ?_
 refine zab ?_
 refine zau ?_
 refine km [0, 1] (rs1 rfl (qB rfl)) rfl rfl ?_ ⟨rfl, rfl, trivial⟩
 rfl
theorem Hp (o : OpM) (L : List Int) (hL : okL L) (w : Nat) (hw : 1 ≤ w ∧ w ≤ 8) (e : Int) (h : tN w L = .err e) : DPan Tryz.prog 119 [.loc 0 0, .val (.int .i64 (w : Int))] [.mix 178 (.loc 1 0 :: opD o), .mix 206 [.slf 1 (L).length ((L).flatMap uc8), .val (.int .i64 0)]] (.ifc 203 (.val (.agg #[.int .i64 e]))) [.mix 178 (.loc 1 0 :: opD o), .mix 206 [.slf 1 (L).length ((L).flatMap uc8), .val (.int .i64 e)]] := by
 refine zap (N := 25) 2 (by kernel_rfl) Tryz.func119 rfl rfl rfl (by simp only [fr0, qbh, qbj]; exact rfl) rfl fun s0 hs0 => ?_
 refine zad ?_
 obtain ⟨h1, rfl⟩ := XG h
 refine zac ?_
 refine zaa 1 rfl ?_
 refine zab ?_
 refine zai ?_
 refine zaa 1 rfl ?_
 refine za rfl (qC rfl (ev1 rfl) (fun s v h => by cases h; exact ⟨_, rfl⟩)) ?_
 refine za rfl (zas rfl wj (ev1 rfl)) ?_
 refine za rfl (zat rfl gA (ev1 rfl) rfl rfl) ?_
 refine zaa 1 rfl ?_
 refine zal rfl (zak [1] [] [] rfl (ev1 rfl) (ec (ev1 rfl) (ec (ev1 rfl) en)) rfl rfl (Xy L w hw h1) rfl rfl rfl rfl rfl rfl) ?_
 refine zaa 1 rfl ?_
 refine zab ?_
 refine zad ?_
 refine y0 11 [([], []), ([], []), ([], []), ([0], []), ([1], []), ([], []), ([], []), ([], []), ([], []), ([0], []), ([1], [])] qJ (by kernel_rfl) rfl rfl ?_
 refine zae rfl rfl (zaj (.inl rfl) (ev1 rfl)) ?_
 refine zae rfl rfl (qC rfl (ev1 rfl) (fun s v h => by cases h; exact ⟨_, rfl⟩)) ?_
 refine zae rfl rfl (zas rfl wj (ev1 rfl)) ?_
 refine zae rfl rfl (zat rfl gA (ev1 rfl) rfl rfl) ?_
 refine zae rfl rfl (zak [] [1] [] rfl (ev1 rfl) (ec (ev1 rfl) en) rfl rfl (zW (L) (110)) rfl rfl rfl rfl rfl rfl) ?_
 refine zae rfl rfl (qj rfl (ev1 rfl) (ev1 rfl)) ?_
 refine zae rfl rfl (zaj (.inl rfl) (ev1 rfl)) ?_
 refine zae rfl rfl (qC rfl (ev1 rfl) (fun s v h => by cases h; exact ⟨_, rfl⟩)) ?_
 refine zae rfl rfl (zas rfl wj (ev1 rfl)) ?_
 refine zae rfl rfl (zat rfl gA (ev1 rfl) rfl rfl) ?_
 refine zae rfl rfl (zak [] [1] [] rfl (ev1 rfl) (ec (ev1 rfl) en) rfl rfl (zW (L) (110)) rfl rfl rfl rfl rfl rfl) ?_
 refine ql ⟨_, _, _, rfl, qQ [] [] [] rfl (ev1 rfl) (ec (ev1 rfl) (ec (ev1 rfl) en)) rfl rfl (Y2 _ _ (rfl)) rfl rfl rfl rfl rfl rfl, ?_⟩
 refine Gp [0, 1] rfl rfl ?_ ⟨rfl, rfl, trivial⟩
 rfl
end Go.Proofs.YtofklkbfkoliiaaGreat
namespace Go.Proofs.YtofklkbfkoliiaaGreat
set_option linter.unusedVariables false
set_option linter.unusedSimpArgs false
open Go.RowKit
attribute [local irreducible] tkN k6 kw XA yl tkF XH vH GM
theorem Hq (o : OpM) (L : List Int) (hL : okL L) (v : Vec) (r : List Int) (h : yk L = .ok v r) : DFun Tryz.prog 95 [.loc 0 0] [.mix 178 (.loc 1 0 :: opD o), .mix 206 [.slf 1 (L).length ((L).flatMap uc8), .val (.int .i64 0)]] (.val (.agg (c9 v).toArray)) [.mix 178 (.loc 1 0 :: opD o), .mix 206 [.slf 1 (r).length ((r).flatMap uc8), .val (.int .i64 0)]] := by
 refine zap (N := 18) 2 (by kernel_rfl) Tryz.func95 rfl rfl rfl (by simp only [fr0, qbh, qbj]; exact rfl) rfl fun s0 hs0 => ?_
 refine zad ?_
 rw [xI] at h
 refine zam 1 ?_
 refine zac ?_
 refine zal rfl (zan 2 rfl wl rfl) ?_
 refine zab ?_
 refine zad ?_
 refine zam 1 ?_
 refine zac ?_
 refine zal rfl (zan 3 rfl wl rfl) ?_
 refine zab ?_
 refine zad ?_
 refine zai ?_
 refine zaa 1 rfl ?_
 refine zab ?_
 refine zav ?_
 refine qE ⟨hs0, rfl⟩ (α := Nat × Vec × List Int) (fun x => [(4, .val (.int .i64 ((x.1 + 1 : Nat) : Int)))]) [(0, _), (2, _), (3, _)] (fun x => [(1, .mix 206 [.slf 1 (x.2.2).length ((x.2.2).flatMap uc8), .val (.int .i64 0)]), (3, .flat 27 (c9 x.2.1))]) [_, .hole, _, .hole] (fun x => okL x.2.2 ∧ x.1 ≤ 8 ∧ vH (8 - x.1) x.2.1 x.2.2 = .ok v r) (fun x => 8 - x.1) (0, z9, L) [0, 1, 2, 3] (⟨hL, qbO _, h⟩) rfl ⟨rfl, rfl, rfl, trivial⟩ ⟨rfl, trivial⟩ ⟨rfl, rfl, rfl, rfl, trivial⟩ ?_
 intro x hx
 simp only [upd, zaf, zag, qbp, qbq]
 obtain ⟨hk, hle, hy⟩ := hx
 refine zad ?_
 refine zai ?_
 refine zaa 1 rfl ?_
 refine za rfl (gS rfl (ev1 rfl) (ev1 rfl)) ?_
 refine zab ?_
 refine qi rfl (fun c1 => ?_) (fun c1 => ?_)
 ·try simp only [decide_eq_true_eq, decide_eq_false_iff_not, beq_iff_eq, bne_iff_ne, beq_eq_false_iff_ne, bne_eq_false_iff_eq, qbl, qbm, qbi, qbo, qbk, ne_eq, Decidable.not_not, qbz, qbA] at c1
  refine zao ?_
  refine zad ?_
  refine zav ?_
  obtain ⟨n, q, hn, hz⟩ := Hl (by omega) hy
  have hn0 : 0 ≤ n := (VP hk hn).2.2.2.1.1
  refine zac ?_
  refine zaa 2 rfl ?_
  refine zal rfl ((zak [0, 1] [] [] rfl (ev1 rfl) (ec (ev1 rfl) (ec (ev1 rfl) en)) rfl rfl (VS o (x.2.2) (hk) 8 (by decide) (n) (q) (hn)) rfl rfl rfl rfl rfl rfl).cast (d' := .val (.int .u64 ((n.toNat : Nat) : Int))) (by rw [Int.toNat_of_nonneg hn0])) ?_
  refine za rfl (xT rfl YD (ev1 rfl) (ev1 rfl) (fun _ => by omega)) ?_
  refine zaq rfl (Kk rfl kC (ev1 rfl) (ev1 rfl) rfl (by rw [GE]; omega) (zQ (j := x.1 + 1) (by omega) (by omega))) ?_
  refine zab ?_
  refine zac ?_
  refine zaa 1 rfl ?_
  refine za rfl (qc rfl (ev1 rfl) (ev1 rfl) (fun _ => qbg _ (by omega))) ?_
  refine zaa 1 rfl ?_
  refine zab ?_
  refine ⟨(x.1 + 1, upV x.2.1 (x.1 + 1) n.toNat, q), [0, 1, 2, 3], ⟨Ap hk hn, by show x.1 + 1 ≤ 8; omega, hz⟩, by show 8 - (x.1 + 1) < 8 - x.1; omega, rfl, ⟨rfl, rfl, rfl, rfl, trivial⟩, ⟨rfl, rfl, rfl, rfl, trivial⟩⟩
 ·try simp only [decide_eq_true_eq, decide_eq_false_iff_not, beq_iff_eq, bne_iff_ne, beq_eq_false_iff_ne, bne_eq_false_iff_eq, qbl, qbm, qbi, qbo, qbk, ne_eq, Decidable.not_not, qbz, qbA] at c1
  refine qz ?_
  refine zad ?_
  obtain ⟨hvB, hxv, hxr⟩ := XK (by omega) hy
  rw [hxv, hxr]
  refine zac ?_
  refine za rfl (qL rfl jx (ev1 rfl) rfl rfl) ?_
  refine za rfl (zak [] [] [] rfl (ev1 rfl) (ec (ev1 rfl) en) rfl rfl (xC v) rfl rfl rfl rfl rfl rfl) ?_
  refine za rfl (qj rfl (ev1 rfl) (ev1 rfl)) ?_
  refine za rfl (zak [] [] [] rfl (ev1 rfl) (ec (ev1 rfl) (ec (ev1 rfl) en)) rfl rfl (xJ _ _ (by rw [hvB]; rfl)) rfl rfl rfl rfl rfl rfl) ?_
  refine zab ?_
  refine zai ?_
  refine za rfl (qL rfl jx (ev1 rfl) rfl rfl) ?_
  refine zaq rfl (qr rfl jx (ev1 rfl) (ev1 rfl) rfl rfl rfl rfl) ?_
  refine zab ?_
  refine zau ?_
  refine km [0, 1] (rs1 rfl (gy jx rfl rfl rfl)) rfl rfl ?_ ⟨rfl, rfl, trivial⟩
  rfl
theorem XN (o : OpM) (L : List Int) (hL : okL L) (e : Int) (h : yk L = .err e) : DPanL Tryz.prog 95 [.loc 0 0] [.mix 178 (.loc 1 0 :: opD o), .mix 206 [.slf 1 (L).length ((L).flatMap uc8), .val (.int .i64 0)]] (.ifc 203 (.val (.agg #[.int .i64 e]))) := by
 refine zap (N := 18) 2 (by kernel_rfl) Tryz.func95 rfl rfl rfl (by simp only [fr0, qbh, qbj]; exact rfl) rfl fun s0 hs0 => ?_
 refine zad ?_
 rw [xI] at h
 refine zam 1 ?_
 refine zac ?_
 refine zal rfl (zan 2 rfl wl rfl) ?_
 refine zab ?_
 refine zad ?_
 refine zam 1 ?_
 refine zac ?_
 refine zal rfl (zan 3 rfl wl rfl) ?_
 refine zab ?_
 refine zad ?_
 refine zai ?_
 refine zaa 1 rfl ?_
 refine zab ?_
 refine zav ?_
 refine qE ⟨hs0, rfl⟩ (α := Nat × Vec × List Int) (fun x => [(4, .val (.int .i64 ((x.1 + 1 : Nat) : Int)))]) [(0, _), (2, _), (3, _)] (fun x => [(1, .mix 206 [.slf 1 (x.2.2).length ((x.2.2).flatMap uc8), .val (.int .i64 0)]), (3, .flat 27 (c9 x.2.1))]) [_, .hole, _, .hole] (fun x => okL x.2.2 ∧ x.1 ≤ 8 ∧ vH (8 - x.1) x.2.1 x.2.2 = .err e) (fun x => 8 - x.1) (0, z9, L) [0, 1, 2, 3] (⟨hL, qbO _, h⟩) rfl ⟨rfl, rfl, rfl, trivial⟩ ⟨rfl, trivial⟩ ⟨rfl, rfl, rfl, rfl, trivial⟩ ?_
 intro x hx
 simp only [upd, zaf, zag, qbp, qbq]
 obtain ⟨hk, hle, hy⟩ := hx
 refine zad ?_
 refine zai ?_
 refine zaa 1 rfl ?_
 refine za rfl (gS rfl (ev1 rfl) (ev1 rfl)) ?_
 refine zab ?_
 refine qi rfl (fun c1 => ?_) (fun c1 => ?_)
 ·try simp only [decide_eq_true_eq, decide_eq_false_iff_not, beq_iff_eq, bne_iff_ne, beq_eq_false_iff_ne, bne_eq_false_iff_eq, qbl, qbm, qbi, qbo, qbk, ne_eq, Decidable.not_not, qbz, qbA] at c1
  refine zao ?_
  refine zad ?_
  refine zav ?_
  by_cases hs : ∃ n q, tN 8 x.2.2 = .ok n q ∧ vH (8 - (x.1 + 1)) (upV x.2.1 (x.1 + 1) n.toNat) q = .err e
  ·obtain ⟨n, q, hn, hz⟩ := hs
   have hn0 : 0 ≤ n := (VP hk hn).2.2.2.1.1
   refine zac ?_
   refine zaa 2 rfl ?_
   refine zal rfl ((zak [0, 1] [] [] rfl (ev1 rfl) (ec (ev1 rfl) (ec (ev1 rfl) en)) rfl rfl (VS o (x.2.2) (hk) 8 (by decide) (n) (q) (hn)) rfl rfl rfl rfl rfl rfl).cast (d' := .val (.int .u64 ((n.toNat : Nat) : Int))) (by rw [Int.toNat_of_nonneg hn0])) ?_
   refine za rfl (xT rfl YD (ev1 rfl) (ev1 rfl) (fun _ => by omega)) ?_
   refine zaq rfl (Kk rfl kC (ev1 rfl) (ev1 rfl) rfl (by rw [GE]; omega) (zQ (j := x.1 + 1) (by omega) (by omega))) ?_
   refine zab ?_
   refine zac ?_
   refine zaa 1 rfl ?_
   refine za rfl (qc rfl (ev1 rfl) (ev1 rfl) (fun _ => qbg _ (by omega))) ?_
   refine zaa 1 rfl ?_
   refine zab ?_
   refine ⟨(x.1 + 1, upV x.2.1 (x.1 + 1) n.toNat, q), [0, 1, 2, 3], ⟨Ap hk hn, by show x.1 + 1 ≤ 8; omega, hz⟩, by show 8 - (x.1 + 1) < 8 - x.1; omega, rfl, ⟨rfl, rfl, rfl, rfl, trivial⟩, ⟨rfl, rfl, rfl, rfl, trivial⟩⟩
  ·have hn : tN 8 x.2.2 = .err e := by
    rcases Hm (by omega) hy with h1 | ⟨n, q, h1, h2⟩
    ·exact h1
    ·exact absurd ⟨n, q, h1, h2⟩ hs
   refine zac ?_
   refine zaa 2 rfl ?_
   refine kz rfl (qQ [0, 1] [] [] rfl (ev1 rfl) (ec (ev1 rfl) (ec (ev1 rfl) en)) rfl rfl (Hp o (x.2.2) (hk) 8 (by decide) (e) (hn)) rfl rfl rfl rfl rfl rfl) rfl ?_
   refine vR (Mo := [_, _]) [0, 1] rfl rfl ?_ ⟨rfl, rfl, trivial⟩ rfl
   rfl
 ·try simp only [decide_eq_true_eq, decide_eq_false_iff_not, beq_iff_eq, bne_iff_ne, beq_eq_false_iff_ne, bne_eq_false_iff_eq, qbl, qbm, qbi, qbo, qbk, ne_eq, Decidable.not_not, qbz, qbA] at c1
  refine qz ?_
  refine zad ?_
  obtain ⟨hvB, rfl⟩ := VQ (by omega) hy
  refine zac ?_
  refine za rfl (qL rfl jx (ev1 rfl) rfl rfl) ?_
  refine za rfl (zak [] [] [] rfl (ev1 rfl) (ec (ev1 rfl) en) rfl rfl (xC x.2.1) rfl rfl rfl rfl rfl rfl) ?_
  refine za rfl (qj rfl (ev1 rfl) (ev1 rfl)) ?_
  refine kz rfl (qQ [] [] [] rfl (ev1 rfl) (ec (ev1 rfl) (ec (ev1 rfl) en)) rfl rfl (Y2 _ _ (by rw [hvB]; rfl)) rfl rfl rfl rfl rfl rfl) rfl ?_
  refine vR (Mo := [_, _]) [0, 1] rfl rfl ?_ ⟨rfl, rfl, trivial⟩ rfl
  rfl
theorem Hr (o : OpM) (L : List Int) (hL : okL L) (e : Int) (h : yk L = .err e) : DPan Tryz.prog 95 [.loc 0 0] [.mix 178 (.loc 1 0 :: opD o), .mix 206 [.slf 1 (L).length ((L).flatMap uc8), .val (.int .i64 0)]] (.ifc 203 (.val (.agg #[.int .i64 e]))) [.gone, .gone] := (XN o L hL e h).dead
theorem Y3 (o : OpM) (L : List Int) (hL : okL L) (v : Vec) (r : List Int) (h : yk L = .ok v r) : DFun Tryz.prog 94 [.loc 0 0] [.mix 178 (.loc 1 0 :: opD o), .mix 206 [.slf 1 (L).length ((L).flatMap uc8), .val (.int .i64 0)]] (.val (.agg (c9 v).toArray)) [.mix 178 (.loc 1 0 :: opD o), .mix 206 [.slf 1 (r).length ((r).flatMap uc8), .val (.int .i64 0)]] := by
 refine zap (N := 5) 2 (by kernel_rfl) Tryz.func94 rfl rfl rfl (by simp only [fr0, qbh, qbj]; exact rfl) rfl fun s0 hs0 => ?_
 refine zad ?_
 refine zam 1 ?_
 refine zac ?_
 refine zal rfl (zan 2 rfl wl rfl) ?_
 refine zab ?_
 refine zai ?_
 refine zaa 1 rfl ?_
 refine zal rfl (zak [0, 1] [] [] rfl (ev1 rfl) (ec (ev1 rfl) en) rfl rfl (Hq o L hL v r h) rfl rfl rfl rfl rfl rfl) ?_
 refine zaq rfl (qr rfl jx (ev1 rfl) (ev1 rfl) rfl rfl rfl rfl) ?_
 refine zab ?_
 refine zau ?_
 refine km [0, 1] (rs1 rfl (gy jx rfl rfl rfl)) rfl rfl ?_ ⟨rfl, rfl, trivial⟩
 rfl
theorem GN (o : OpM) (L : List Int) (hL : okL L) (e : Int) (hp : DPan Tryz.prog 95 [.loc 0 0] [.mix 178 (.loc 1 0 :: opD o), .mix 206 [.slf 1 (L).length ((L).flatMap uc8), .val (.int .i64 0)]] (.ifc 203 (.val (.agg #[.int .i64 e]))) [.gone, .gone]) : DPanL Tryz.prog 94 [.loc 0 0] [.mix 178 (.loc 1 0 :: opD o), .mix 206 [.slf 1 (L).length ((L).flatMap uc8), .val (.int .i64 0)]] (.ifc 203 (.val (.agg #[.int .i64 e]))) := by
 refine zap (N := 5) 2 (by kernel_rfl) Tryz.func94 rfl rfl rfl (by simp only [fr0, qbh, qbj]; exact rfl) rfl fun s0 hs0 => ?_
 refine zad ?_
 refine zam 1 ?_
 refine zac ?_
 refine zal rfl (zan 2 rfl wl rfl) ?_
 refine zab ?_
 refine zai ?_
 refine zaa 1 rfl ?_
 refine kz rfl (qQ [0, 1] [] [] rfl (ev1 rfl) (ec (ev1 rfl) en) rfl rfl (hp) rfl rfl rfl rfl rfl rfl) rfl ?_
 refine vR (Mo := [_, _]) [0, 1] rfl rfl ?_ ⟨rfl, rfl, trivial⟩ rfl
 rfl
theorem Y4 (o : OpM) (L : List Int) (hL : okL L) (e : Int) (h : yk L = .err e) : DPan Tryz.prog 94 [.loc 0 0] [.mix 178 (.loc 1 0 :: opD o), .mix 206 [.slf 1 (L).length ((L).flatMap uc8), .val (.int .i64 0)]] (.ifc 203 (.val (.agg #[.int .i64 e]))) [.gone, .gone] := (GN o L hL e (Hr o L hL e h)).dead
end Go.Proofs.YtofklkbfkoliiaaGreat
