/- a tile that is read; a tile that is read, whole; tiles and sizes that are read; tiles that are read, one behind the other; tiles that are read, all; canvases that are read; canvases as bytes; canvases and patches, whole; A variable that holds one value with an address, then numbers, then another value with an address: its numbers told as one list; wakes; octet: readers; Numbers, ids, colours, as bytes; Ids, places, colours, stamps, as bytes; Operations, as bytes, kind by kind; Operations, as bytes; Rows of operations, and vectors, as bytes; What the laws of codes ask; Vectors, as bytes; Fields one by one; bytes of numbers; what is taken, step by step; laying: numbers and ids; laying: vectors; taking: numbers; taking: vectors. No condition. -/
import Derived.Test.YtofklkbfkoliiaaQ4
import Derived.Test.YtofklkbfkoliiaaRows
set_option maxRecDepth 4000
set_option maxHeartbeats 1000000
open List renaming getElem?_eq_some_iff → qaj, getElem?_eq_getElem → qak, length_append → qap, cons_append → qas, nil_append → qaw, replicate → qax, flatMap_cons → qaD, length_replicate → qaG, getElem?_append_right → qaH, length_cons → qaI, getD_eq_getElem?_getD → qaJ, take_of_length_le → qaK, eq_nil_of_length_eq_zero → qaL, length_take → qaN, append_assoc → qaQ, take_succ_eq_append_getElem → qaU, mem_cons_self → qaW, mem_cons_of_mem → qaX, length_nil → qa4, append_nil → qa6, getElem_mem → qa7
open Nat renaming zero_add → qal, reduceAdd → qam, le_of_ble_eq_true → qaq, le_refl → qaE, le_trans → qaF, lt_of_succ_le → qaS, zero_le → qaZ, mul_le_mul_right → qa1, succ_mul → qa8
open Bool renaming and_eq_true → qan, or_eq_false_iff → qar, not_eq_true' → qau, not_eq_false' → qay, or_eq_true → qaA
open Go.IntWalk renaming i64_in → qat
open Int renaming not_lt → qaO, not_le → qaP, toNat_natCast → qaV
namespace Go.Proofs.Ytofklkbfkoliiaa
set_option linter.unusedVariables false
set_option linter.unusedSimpArgs false
open Go.RowKit
attribute [local irreducible] k8 rdP rdN gT
noncomputable def GD : Code := rfA (pth [1, 0, 1, 1, 1, 0, 1, 0] (vT Try.f94))
noncomputable def GE : Code := rfB (pth [1, 0, 1, 1, 1, 0, 1, 0] (vT Try.f94))
theorem tr_y (acc : List C4) (n : Int) (c : C4) (ha : acc.length < 64) (hm : gT acc n c = true) (hn : acc.length + n.toNat < 64) : DRound Try.prog 0 [.val (.agg (runI (n, c)).toArray)] [.lp (some 94) 48 [(3, .loc 1 0), (4, .loc 2 0)] #[8] GD GE .ready none, .flat 132 (tc (k8 acc)), .flat 3 [.int .i64 (acc.length : Int)]] true [.lp (some 94) 48 [(3, .loc 1 0), (4, .loc 2 0)] #[8] GD GE .ready none, .flat 132 (tc (k8 (acc ++ qax n.toNat c))), .flat 3 [.int .i64 ((acc.length + n.toNat : Nat) : Int)]] := by
 have hmg := mayG_iff.1 hm
 refine yo 3 rfl rfl (by simp) rfl rfl fun s0 hs0 => ?_
 refine zam 1 ?_
 refine zac ?_
 refine zaj rfl (zao 3 rfl wD rfl) ?_
 refine qc rfl (q0 rfl KG (ev1 rfl) (ev1 rfl) rfl rfl rfl rfl) ?_
 refine zab ?_
 refine ⟨rfl, ?_⟩
 simp only [zad, zaf]
 refine qf ?_
 refine zag ?_
 refine zag ?_
 refine qk [([], []), ([3], []), ([], []), ([], []), ([], []), ([3], []), ([2], []), ([], []), ([], []), ([], []), ([], []), ([2], []), ([], []), ([], []), ([2], []), ([], []), ([], []), ([1], []), ([], []), ([3], []), ([], []), ([], []), ([], [])] qW (by kernel_rfl) ?_
 refine zae rfl rfl (qa rfl gt (ev1 rfl)) ?_
 refine zae rfl rfl (qq rfl tb3 (ev1 rfl) rfl rfl) ?_
 refine zae rfl rfl (qI rfl (ev1 rfl) (ev1 rfl)) ?_
 refine zae rfl rfl (zal (.inl rfl) (ev1 rfl)) ?_
 refine qg (qm rfl rfl rfl) rfl rfl (qa rfl gt (ev1 rfl)) ?_
 refine qg (qm rfl rfl rfl) rfl rfl (qq rfl tb3 (ev2 rfl) rfl rfl) ?_
 refine qg (qm rfl rfl rfl) rfl rfl (qq rfl tb3 (ev1 rfl) rfl rfl) ?_
 refine qg (qm rfl rfl rfl) rfl rfl (jy rfl (ev1 rfl) (ev2 rfl) (fun hp => qat _ (by first | omega | (simp at hp; omega)))) ?_
 refine qg (qm rfl rfl rfl) rfl rfl (kD rfl (ev2 rfl) (ev2 rfl)) ?_
 refine zae rfl rfl (kC rfl (ev1 rfl) (ev3 rfl id)) ?_
 refine zae rfl rfl (zal (.inl rfl) (ev1 rfl)) ?_
 refine qg (qm rfl rfl rfl) rfl rfl (qq rfl tb3 (ev1 rfl) rfl rfl) ?_
 refine qg (qm rfl rfl rfl) rfl rfl (kD rfl (ev2 rfl) (ev1 rfl)) ?_
 refine qg (qm rfl rfl rfl) rfl rfl (zal (.inl rfl) (ev2 rfl)) ?_
 refine qg (kx rfl rfl rfl) rfl rfl (qq rfl tb3 (ev1 rfl) rfl rfl) ?_
 refine qg (kx rfl rfl rfl) rfl rfl (jy rfl (ev2 rfl) (ev1 rfl) (fun hp => qat _ (by first | omega | (simp at hp; omega)))) ?_
 refine qg (kx rfl rfl rfl) rfl rfl (ye (j := acc.length - 1) rfl wC (ev1 rfl) (ev2 rfl) (fun hp => by first | omega | (simp at hp; omega)) (fun hp => by first | omega | (simp at hp; omega))) ?_
 refine qg (kx rfl rfl rfl) rfl rfl (uv (zC4) rfl gv (ev2 rfl) rfl (fun _ => rfl) (fun _ => by rw [TL.h]; omega)) ?_
 refine qg (kx rfl rfl rfl) rfl rfl (qa rfl gP (ev1 rfl)) ?_
 refine qg (kx rfl rfl rfl) rfl rfl (vO rfl gv (ev2 rfl) rfl rfl rfl) ?_
 refine qg (kx rfl rfl rfl) rfl rfl (vg Qw rfl QA gv (ev2 rfl) (ev2 rfl)) ?_
 refine qg (qm rfl rfl rfl) rfl rfl (q9 rfl (ev2 rfl) (ev2 rfl)) ?_
 refine zae rfl rfl (kC rfl (ev1 rfl) (ev3 rfl id)) ?_
 refine qu ?_
 refine qj rfl ((YC ha).trans (by rw [hm]; rfl)) ?_
 refine qd ?_
 refine zag ?_
 refine zah ?_
 refine za rfl (qa rfl gt (ev1 rfl)) ?_
 refine za rfl (qq rfl tb3 (ev1 rfl) rfl rfl) ?_
 refine zaa 1 rfl ?_
 refine zab ?_
 refine qf ?_
 refine qY ⟨hs0, rfl⟩ (α := Nat) (fun k => [(36, .val (.int .i64 (k : Int)))]) [(3, _), (4, _), (5, _), (35, _)] (fun k => [(1, .flat 132 (tc (k8 (acc ++ qax k c)))), (2, .flat 3 [.int .i64 ((acc.length + k : Nat) : Int)])]) [_, .hole, .hole, _] (fun k => k ≤ n.toNat) (fun k => n.toNat - k) 0 [0, 1, 2, 3] (qaZ _) rfl ⟨rfl, rfl, rfl, rfl, trivial⟩ ⟨rfl, trivial⟩ ⟨rfl, by rw [List.replicate_zero, qa6]; rfl, rfl, rfl, trivial⟩ ?_
 intro k hx
 simp only [upd, zad, zaf, qas, qaw]
 have hk0 := hx
 refine zah ?_
 refine za rfl (qI rfl (ev1 rfl) (ev1 rfl)) ?_
 refine zab ?_
 refine zag ?_
 refine qv rfl (fun c2 => ?_) (fun c2 => ?_)
 ·try simp only [decide_eq_true_eq, decide_eq_false_iff_not, beq_iff_eq, bne_iff_ne, beq_eq_false_iff_ne, bne_eq_false_iff_eq, qau, qay, qan, qaA, qar, ne_eq, Decidable.not_not, qaO, qaP] at c2
  refine qd ?_
  refine zag ?_
  refine qf ?_
  refine zah ?_
  refine za rfl (qq rfl tb3 (ev1 rfl) rfl rfl) ?_
  refine za rfl (qa rfl gP (ev1 rfl)) ?_
  refine za rfl (vO rfl gv (ev1 rfl) rfl rfl rfl) ?_
  refine za rfl (ye (j := acc.length + k) rfl wC (ev1 rfl) (ev1 rfl) (fun _ => by omega) (fun _ => by omega)) ?_
  refine qc rfl (xJ rfl gv (ev1 rfl) (ev1 rfl) rfl rfl rfl (fun _ => rfl) (fun _ => by rw [TL.h]; omega)) ?_
  refine zab ?_
  refine zac ?_
  refine za rfl (qq rfl tb3 (ev1 rfl) rfl rfl) ?_
  refine za rfl (qx rfl (ev1 rfl) (ev1 rfl) (fun _ => qat _ (by omega))) ?_
  refine qc rfl (qG rfl tb3 (ev1 rfl) (ev1 rfl) rfl) ?_
  refine zab ?_
  refine zac ?_
  refine za rfl (qx rfl (ev1 rfl) (ev1 rfl) (fun _ => qat _ (by omega))) ?_
  refine zaa 1 rfl ?_
  refine zab ?_
  refine ⟨k + 1, [0, 1, 2, 3], by omega, by simp only []; omega, rfl, ⟨rfl, rfl, rfl, rfl, rfl, trivial⟩, ⟨rfl, by rw [W2, GA (by omega)]; rfl, rfl, rfl, trivial⟩⟩
 ·try simp only [decide_eq_true_eq, decide_eq_false_iff_not, beq_iff_eq, bne_iff_ne, beq_eq_false_iff_ne, bne_eq_false_iff_eq, qau, qay, qan, qaA, qar, ne_eq, Decidable.not_not, qaO, qaP] at c2
  refine qQ ?_
  refine zah ?_
  refine za rfl (qq rfl tb3 (ev1 rfl) rfl rfl) ?_
  refine za rfl (qB rfl (ev1 rfl) (ev1 rfl)) ?_
  refine zab ?_
  refine qj rfl (by simp; omega) ?_
  refine qd ?_
  obtain rfl : k = n.toNat := by omega
  refine ⟨by first | rfl | assumption | simp_all, rfl, [0, 1, 2], rfl, ⟨rfl, rfl, rfl, trivial⟩⟩
theorem tr_z (acc : List C4) (n : Int) (c : C4) (ha : acc.length < 64) (hm : gT acc n c = true) (hn : acc.length + n.toNat = 64) : DRound Try.prog 0 [.val (.agg (runI (n, c)).toArray)] [.lp (some 94) 48 [(3, .loc 1 0), (4, .loc 2 0)] #[8] GD GE .ready none, .flat 132 (tc (k8 acc)), .flat 3 [.int .i64 (acc.length : Int)]] false [.lp (some 94) 48 [(3, .loc 1 0), (4, .loc 2 0)] #[8] GD GE .done (some (.exit 0)), .flat 132 (tc (k8 (acc ++ qax n.toNat c))), .flat 3 [.int .i64 ((acc.length + n.toNat : Nat) : Int)]] := by
 have hmg := mayG_iff.1 hm
 refine yo 3 rfl rfl (by simp) rfl rfl fun s0 hs0 => ?_
 refine zam 1 ?_
 refine zac ?_
 refine zaj rfl (zao 3 rfl wD rfl) ?_
 refine qc rfl (q0 rfl KG (ev1 rfl) (ev1 rfl) rfl rfl rfl rfl) ?_
 refine zab ?_
 refine ⟨rfl, ?_⟩
 simp only [zad, zaf]
 refine qf ?_
 refine zag ?_
 refine zag ?_
 refine qk [([], []), ([3], []), ([], []), ([], []), ([], []), ([3], []), ([2], []), ([], []), ([], []), ([], []), ([], []), ([2], []), ([], []), ([], []), ([2], []), ([], []), ([], []), ([1], []), ([], []), ([3], []), ([], []), ([], []), ([], [])] qW (by kernel_rfl) ?_
 refine zae rfl rfl (qa rfl gt (ev1 rfl)) ?_
 refine zae rfl rfl (qq rfl tb3 (ev1 rfl) rfl rfl) ?_
 refine zae rfl rfl (qI rfl (ev1 rfl) (ev1 rfl)) ?_
 refine zae rfl rfl (zal (.inl rfl) (ev1 rfl)) ?_
 refine qg (qm rfl rfl rfl) rfl rfl (qa rfl gt (ev1 rfl)) ?_
 refine qg (qm rfl rfl rfl) rfl rfl (qq rfl tb3 (ev2 rfl) rfl rfl) ?_
 refine qg (qm rfl rfl rfl) rfl rfl (qq rfl tb3 (ev1 rfl) rfl rfl) ?_
 refine qg (qm rfl rfl rfl) rfl rfl (jy rfl (ev1 rfl) (ev2 rfl) (fun hp => qat _ (by first | omega | (simp at hp; omega)))) ?_
 refine qg (qm rfl rfl rfl) rfl rfl (kD rfl (ev2 rfl) (ev2 rfl)) ?_
 refine zae rfl rfl (kC rfl (ev1 rfl) (ev3 rfl id)) ?_
 refine zae rfl rfl (zal (.inl rfl) (ev1 rfl)) ?_
 refine qg (qm rfl rfl rfl) rfl rfl (qq rfl tb3 (ev1 rfl) rfl rfl) ?_
 refine qg (qm rfl rfl rfl) rfl rfl (kD rfl (ev2 rfl) (ev1 rfl)) ?_
 refine qg (qm rfl rfl rfl) rfl rfl (zal (.inl rfl) (ev2 rfl)) ?_
 refine qg (kx rfl rfl rfl) rfl rfl (qq rfl tb3 (ev1 rfl) rfl rfl) ?_
 refine qg (kx rfl rfl rfl) rfl rfl (jy rfl (ev2 rfl) (ev1 rfl) (fun hp => qat _ (by first | omega | (simp at hp; omega)))) ?_
 refine qg (kx rfl rfl rfl) rfl rfl (ye (j := acc.length - 1) rfl wC (ev1 rfl) (ev2 rfl) (fun hp => by first | omega | (simp at hp; omega)) (fun hp => by first | omega | (simp at hp; omega))) ?_
 refine qg (kx rfl rfl rfl) rfl rfl (uv (zC4) rfl gv (ev2 rfl) rfl (fun _ => rfl) (fun _ => by rw [TL.h]; omega)) ?_
 refine qg (kx rfl rfl rfl) rfl rfl (qa rfl gP (ev1 rfl)) ?_
 refine qg (kx rfl rfl rfl) rfl rfl (vO rfl gv (ev2 rfl) rfl rfl rfl) ?_
 refine qg (kx rfl rfl rfl) rfl rfl (vg Qw rfl QA gv (ev2 rfl) (ev2 rfl)) ?_
 refine qg (qm rfl rfl rfl) rfl rfl (q9 rfl (ev2 rfl) (ev2 rfl)) ?_
 refine zae rfl rfl (kC rfl (ev1 rfl) (ev3 rfl id)) ?_
 refine qu ?_
 refine qj rfl ((YC ha).trans (by rw [hm]; rfl)) ?_
 refine qd ?_
 refine zag ?_
 refine zah ?_
 refine za rfl (qa rfl gt (ev1 rfl)) ?_
 refine za rfl (qq rfl tb3 (ev1 rfl) rfl rfl) ?_
 refine zaa 1 rfl ?_
 refine zab ?_
 refine qf ?_
 refine qY ⟨hs0, rfl⟩ (α := Nat) (fun k => [(36, .val (.int .i64 (k : Int)))]) [(3, _), (4, _), (5, _), (35, _)] (fun k => [(1, .flat 132 (tc (k8 (acc ++ qax k c)))), (2, .flat 3 [.int .i64 ((acc.length + k : Nat) : Int)])]) [_, .hole, .hole, _] (fun k => k ≤ n.toNat) (fun k => n.toNat - k) 0 [0, 1, 2, 3] (qaZ _) rfl ⟨rfl, rfl, rfl, rfl, trivial⟩ ⟨rfl, trivial⟩ ⟨rfl, by rw [List.replicate_zero, qa6]; rfl, rfl, rfl, trivial⟩ ?_
 intro k hx
 simp only [upd, zad, zaf, qas, qaw]
 have hk0 := hx
 refine zah ?_
 refine za rfl (qI rfl (ev1 rfl) (ev1 rfl)) ?_
 refine zab ?_
 refine zag ?_
 refine qv rfl (fun c2 => ?_) (fun c2 => ?_)
 ·try simp only [decide_eq_true_eq, decide_eq_false_iff_not, beq_iff_eq, bne_iff_ne, beq_eq_false_iff_ne, bne_eq_false_iff_eq, qau, qay, qan, qaA, qar, ne_eq, Decidable.not_not, qaO, qaP] at c2
  refine qd ?_
  refine zag ?_
  refine qf ?_
  refine zah ?_
  refine za rfl (qq rfl tb3 (ev1 rfl) rfl rfl) ?_
  refine za rfl (qa rfl gP (ev1 rfl)) ?_
  refine za rfl (vO rfl gv (ev1 rfl) rfl rfl rfl) ?_
  refine za rfl (ye (j := acc.length + k) rfl wC (ev1 rfl) (ev1 rfl) (fun _ => by omega) (fun _ => by omega)) ?_
  refine qc rfl (xJ rfl gv (ev1 rfl) (ev1 rfl) rfl rfl rfl (fun _ => rfl) (fun _ => by rw [TL.h]; omega)) ?_
  refine zab ?_
  refine zac ?_
  refine za rfl (qq rfl tb3 (ev1 rfl) rfl rfl) ?_
  refine za rfl (qx rfl (ev1 rfl) (ev1 rfl) (fun _ => qat _ (by omega))) ?_
  refine qc rfl (qG rfl tb3 (ev1 rfl) (ev1 rfl) rfl) ?_
  refine zab ?_
  refine zac ?_
  refine za rfl (qx rfl (ev1 rfl) (ev1 rfl) (fun _ => qat _ (by omega))) ?_
  refine zaa 1 rfl ?_
  refine zab ?_
  refine ⟨k + 1, [0, 1, 2, 3], by omega, by simp only []; omega, rfl, ⟨rfl, rfl, rfl, rfl, rfl, trivial⟩, ⟨rfl, by rw [W2, GA (by omega)]; rfl, rfl, rfl, trivial⟩⟩
 ·try simp only [decide_eq_true_eq, decide_eq_false_iff_not, beq_iff_eq, bne_iff_ne, beq_eq_false_iff_ne, bne_eq_false_iff_eq, qau, qay, qan, qaA, qar, ne_eq, Decidable.not_not, qaO, qaP] at c2
  refine qQ ?_
  refine zah ?_
  refine za rfl (qq rfl tb3 (ev1 rfl) rfl rfl) ?_
  refine za rfl (qB rfl (ev1 rfl) (ev1 rfl)) ?_
  refine zab ?_
  refine qR rfl (by simp; omega) ?_
  refine qQ ?_
  obtain rfl : k = n.toNat := by omega
  refine ⟨by first | rfl | assumption | simp_all, rfl, [0, 1, 2], rfl, ⟨rfl, rfl, rfl, trivial⟩⟩
theorem tr_p (acc : List C4) (n : Int) (c : C4) (ha : acc.length < 64) (hm : gT acc n c = false) : DRoundP Try.prog 0 [.val (.agg (runI (n, c)).toArray)] [.lp (some 94) 48 [(3, .loc 1 0), (4, .loc 2 0)] #[8] GD GE .ready none, .flat 132 (tc (k8 acc)), .flat 3 [.int .i64 (acc.length : Int)]] (.ifc 153 (.val (.agg #[]))) [.gone, .gone, .gone] := by
 refine Yu 3 Try.func94 rfl rfl (by simp) rfl rfl fun s0 hs0 => ?_
 refine zam 1 ?_
 refine zac ?_
 refine zaj rfl (zao 3 rfl wD rfl) ?_
 refine qc rfl (q0 rfl KG (ev1 rfl) (ev1 rfl) rfl rfl rfl rfl) ?_
 refine zab ?_
 refine ⟨rfl, ?_⟩
 simp only [zad, zaf]
 refine qf ?_
 refine zag ?_
 refine zag ?_
 refine qk [([], []), ([3], []), ([], []), ([], []), ([], []), ([3], []), ([2], []), ([], []), ([], []), ([], []), ([], []), ([2], []), ([], []), ([], []), ([2], []), ([], []), ([], []), ([1], []), ([], []), ([3], []), ([], []), ([], []), ([], [])] qW (by kernel_rfl) ?_
 refine zae rfl rfl (qa rfl gt (ev1 rfl)) ?_
 refine zae rfl rfl (qq rfl tb3 (ev1 rfl) rfl rfl) ?_
 refine zae rfl rfl (qI rfl (ev1 rfl) (ev1 rfl)) ?_
 refine zae rfl rfl (zal (.inl rfl) (ev1 rfl)) ?_
 refine qg (qm rfl rfl rfl) rfl rfl (qa rfl gt (ev1 rfl)) ?_
 refine qg (qm rfl rfl rfl) rfl rfl (qq rfl tb3 (ev2 rfl) rfl rfl) ?_
 refine qg (qm rfl rfl rfl) rfl rfl (qq rfl tb3 (ev1 rfl) rfl rfl) ?_
 refine qg (qm rfl rfl rfl) rfl rfl (jy rfl (ev1 rfl) (ev2 rfl) (fun hp => qat _ (by first | omega | (simp at hp; omega)))) ?_
 refine qg (qm rfl rfl rfl) rfl rfl (kD rfl (ev2 rfl) (ev2 rfl)) ?_
 refine zae rfl rfl (kC rfl (ev1 rfl) (ev3 rfl id)) ?_
 refine zae rfl rfl (zal (.inl rfl) (ev1 rfl)) ?_
 refine qg (qm rfl rfl rfl) rfl rfl (qq rfl tb3 (ev1 rfl) rfl rfl) ?_
 refine qg (qm rfl rfl rfl) rfl rfl (kD rfl (ev2 rfl) (ev1 rfl)) ?_
 refine qg (qm rfl rfl rfl) rfl rfl (zal (.inl rfl) (ev2 rfl)) ?_
 refine qg (kx rfl rfl rfl) rfl rfl (qq rfl tb3 (ev1 rfl) rfl rfl) ?_
 refine qg (kx rfl rfl rfl) rfl rfl (jy rfl (ev2 rfl) (ev1 rfl) (fun hp => qat _ (by first | omega | (simp at hp; omega)))) ?_
 refine qg (kx rfl rfl rfl) rfl rfl (ye (j := acc.length - 1) rfl wC (ev1 rfl) (ev2 rfl) (fun hp => by first | omega | (simp at hp; omega)) (fun hp => by first | omega | (simp at hp; omega))) ?_
 refine qg (kx rfl rfl rfl) rfl rfl (uv (zC4) rfl gv (ev2 rfl) rfl (fun _ => rfl) (fun _ => by rw [TL.h]; omega)) ?_
 refine qg (kx rfl rfl rfl) rfl rfl (qa rfl gP (ev1 rfl)) ?_
 refine qg (kx rfl rfl rfl) rfl rfl (vO rfl gv (ev2 rfl) rfl rfl rfl) ?_
 refine qg (kx rfl rfl rfl) rfl rfl (vg Qw rfl QA gv (ev2 rfl) (ev2 rfl)) ?_
 refine qg (qm rfl rfl rfl) rfl rfl (q9 rfl (ev2 rfl) (ev2 rfl)) ?_
 refine zae rfl rfl (kC rfl (ev1 rfl) (ev3 rfl id)) ?_
 refine qu ?_
 refine qR rfl ((YC ha).trans (by rw [hm]; rfl)) ?_
 refine zac ?_
 refine za rfl (jG rfl Gk zG) ?_
 refine za rfl (xl rfl zE (ev1 rfl)) ?_
 refine ke rfl (vR rfl (ev1 rfl)) rfl ?_
 refine ⟨[0, 1, 2], [_, _, _], rfl, rfl, ⟨rfl, rfl, rfl, trivial⟩, rfl⟩
end Go.Proofs.Ytofklkbfkoliiaa
namespace Go.Proofs.Ytofklkbfkoliiaa
set_option linter.unusedVariables false
set_option linter.unusedSimpArgs false
open Go.RowKit
attribute [local irreducible] k8 rdP rdN gT
theorem VO (B : List Int) (hB : B.length ≤ 4000000000000000000) (w h : Int) (us : List TL) (hu : us.length ≤ 5000) (hi : isB B) (p0 : Nat) (hp : p0 ≤ B.length) (l : List C4) (q : Nat) (h0 : rdN B p0 = some (l, q)) : DFun Try.prog 101 [.yld 0, .loc 3 0] [.lp (some 94) 48 [(3, .loc 1 0), (4, .loc 2 0)] #[8] GD GE .ready none, .flat 132 (tc zT), .flat 3 [.int .i64 0], .mix 155 [.loc 4 0], .mix 129 [.val (.int .i64 w), .val (.int .i64 h), .arr 5, .slf 1 (B).length ((B).flatMap uc8), .val (.int .i64 (p0 : Int))], .arr 132 256 (us).length ((us).flatMap tc)] (.tup []) [.lp (some 94) 48 [(3, .loc 1 0), (4, .loc 2 0)] #[8] GD GE .done (some (.exit 0)), .flat 132 (tc (k8 l)), .flat 3 [.int .i64 64], .mix 155 [.loc 4 0], .mix 129 [.val (.int .i64 w), .val (.int .i64 h), .arr 5, .slf 1 (B).length ((B).flatMap uc8), .val (.int .i64 (q : Int))], .arr 132 256 (us).length ((us).flatMap tc)] := by
 refine zan (N := 27) 6 (by kernel_rfl) Try.func101 rfl rfl rfl (by simp only [fr0, qal, qam]; exact rfl) rfl fun s0 hs0 => ?_
 refine qf ?_
 refine qY ⟨hs0, rfl⟩ (α := Nat × List C4 × Nat) (fun x => []) [(0, _), (1, _)] (fun x => [(1, .flat 132 (tc (k8 x.2.1))), (2, .flat 3 [.int .i64 (x.2.1.length : Int)]), (4, .mix 129 [.val (.int .i64 w), .val (.int .i64 h), .arr 5, .slf 1 (B).length ((B).flatMap uc8), .val (.int .i64 (x.2.2 : Int))])]) [_, .hole, .hole, _, .hole, _] (fun x => x.2.1.length < 64 ∧ x.2.2 ≤ B.length ∧ rdP B x.1 x.2.1 x.2.2 = some (l, q)) (fun x => 64 - x.2.1.length) (64, [], p0) [0, 1, 2, 3, 4, 5] (⟨by show 0 < 64; decide, hp, by unfold rdN at h0; exact h0⟩) rfl ⟨rfl, rfl, trivial⟩ trivial ⟨rfl, by rw [Gz]; rfl, rfl, rfl, rfl, rfl, trivial⟩ ?_
 intro x hx
 simp only [upd, zad, zaf, qas, qaw]
 obtain ⟨f, acc, p⟩ := x
 obtain ⟨ha, hpl, hrd⟩ := hx
 dsimp only at ha hpl hrd ⊢
 obtain ⟨h5, hm, hz, hy⟩ := GB hrd
 have hmg := (mayG_iff.1 hm).1
 refine qf ?_
 refine zah ?_
 refine za rfl (qb rfl Uc (ev1 rfl) rfl rfl) ?_
 refine zaj rfl (zai [4, 5] [] [] rfl (ev1 rfl) (ec (ev1 rfl) (ec (ev1 rfl) en)) rfl rfl (Ut B hB w h us hu p h5) rfl rfl rfl rfl rfl rfl) ?_
 refine zaa 1 rfl ?_
 refine zab ?_
 refine zag ?_
 by_cases hd : acc.length + (kt B p).1.toNat = 64
 ·refine qk [([], []), ([], []), ([], []), ([], []), ([], []), ([], []), ([], []), ([], []), ([], []), ([], []), ([], []), ([], []), ([], []), ([], []), ([], []), ([], []), ([], []), ([], []), ([], []), ([0, 1, 2], [0, 1, 2]), ([], [])] qW (by kernel_rfl) ?_
  refine zae rfl rfl (zal (.inl rfl) (ev1 rfl)) ?_
  refine zae rfl rfl (zal (.inl rfl) (ev1 rfl)) ?_
  refine zae rfl rfl (qS (l := (yD B p)) (en := uc8) (j := 0) rfl qK (ev1 rfl) (ev1 rfl) (fun _ => rfl) (by decide) rfl (qaS (qaq rfl))) ?_
  refine zae rfl rfl ((qV rfl tb5 (ev1 rfl) rfl).wk (Wk.of_eq (d' := .val (.int .u8 (bAt B p))) rfl)) ?_
  refine zae rfl rfl (ju ty5 kn3 rfl (ev1 rfl) (fun _ => by have := vX hi p; exact qat _ (by omega))) ?_
  refine zae rfl rfl (zal (.inl rfl) (ev1 rfl)) ?_
  refine zae rfl rfl (qS (l := (yD B p)) (en := uc8) (j := 1) rfl qK (ev1 rfl) (ev1 rfl) (fun _ => rfl) (by decide) rfl (qaS (qaq rfl))) ?_
  refine zae rfl rfl (qV rfl tb5 (ev1 rfl) rfl) ?_
  refine zae rfl rfl (zal (.inl rfl) (ev1 rfl)) ?_
  refine zae rfl rfl (qS (l := (yD B p)) (en := uc8) (j := 2) rfl qK (ev1 rfl) (ev1 rfl) (fun _ => rfl) (by decide) rfl (qaS (qaq rfl))) ?_
  refine zae rfl rfl (qV rfl tb5 (ev1 rfl) rfl) ?_
  refine zae rfl rfl (zal (.inl rfl) (ev1 rfl)) ?_
  refine zae rfl rfl (qS (l := (yD B p)) (en := uc8) (j := 3) rfl qK (ev1 rfl) (ev1 rfl) (fun _ => rfl) (by decide) rfl (qaS (qaq rfl))) ?_
  refine zae rfl rfl (qV rfl tb5 (ev1 rfl) rfl) ?_
  refine zae rfl rfl (zal (.inl rfl) (ev1 rfl)) ?_
  refine zae rfl rfl (qS (l := (yD B p)) (en := uc8) (j := 4) rfl qK (ev1 rfl) (ev1 rfl) (fun _ => rfl) (by decide) rfl (qaS (qaq rfl))) ?_
  refine zae rfl rfl (qV rfl tb5 (ev1 rfl) rfl) ?_
  refine zae rfl rfl (kW (ps := [(0, .tmp 13), (1, .tmp 16), (2, .tmp 19), (3, .tmp 22)]) rfl Gj Gm (vc (ev1 rfl) (vc (ev1 rfl) (vc (ev1 rfl) (vc (ev1 rfl) vn)))) rfl rfl) ?_
  refine zae rfl rfl (kW (ps := [(0, .tmp 10), (1, .tmp 23)]) rfl Gl wD (vc (ev1 rfl) (vc (ev1 rfl) vn)) rfl rfl) ?_
  refine yw rfl rfl (J0 (i := 0) [0, 1, 2] [] [] rfl (ev1 rfl) (ec (ev1 rfl) en) rfl rfl rfl (tr_z acc (bAt B p) (kt B p).2 ha hm hd) rfl rfl rfl rfl rfl) rfl (by simp only [upd, zad, zaf]; exact rfl) ?_
  refine zae rfl rfl (kX rfl (ev1 rfl)) ?_
  refine qu ?_
  refine qR rfl (rfl) ?_
  refine qe ?_
  obtain ⟨rfl, rfl⟩ := hz hd
  have hd2 : acc.length + (bAt B p).toNat = 64 := hd
  rw [hd2]
  refine kc [0, 1, 2, 3, 4, 5] (qD rfl) rfl rfl ?_ ⟨rfl, rfl, rfl, rfl, rfl, rfl, trivial⟩
  rfl
 ·have hmn : (kt B p).1 = bAt B p := rfl
  refine qk [([], []), ([], []), ([], []), ([], []), ([], []), ([], []), ([], []), ([], []), ([], []), ([], []), ([], []), ([], []), ([], []), ([], []), ([], []), ([], []), ([], []), ([], []), ([], []), ([0, 1, 2], [0, 1, 2]), ([], [])] qW (by kernel_rfl) ?_
  refine zae rfl rfl (zal (.inl rfl) (ev1 rfl)) ?_
  refine zae rfl rfl (zal (.inl rfl) (ev1 rfl)) ?_
  refine zae rfl rfl (qS (l := (yD B p)) (en := uc8) (j := 0) rfl qK (ev1 rfl) (ev1 rfl) (fun _ => rfl) (by decide) rfl (qaS (qaq rfl))) ?_
  refine zae rfl rfl ((qV rfl tb5 (ev1 rfl) rfl).wk (Wk.of_eq (d' := .val (.int .u8 (bAt B p))) rfl)) ?_
  refine zae rfl rfl (ju ty5 kn3 rfl (ev1 rfl) (fun _ => by have := vX hi p; exact qat _ (by omega))) ?_
  refine zae rfl rfl (zal (.inl rfl) (ev1 rfl)) ?_
  refine zae rfl rfl (qS (l := (yD B p)) (en := uc8) (j := 1) rfl qK (ev1 rfl) (ev1 rfl) (fun _ => rfl) (by decide) rfl (qaS (qaq rfl))) ?_
  refine zae rfl rfl (qV rfl tb5 (ev1 rfl) rfl) ?_
  refine zae rfl rfl (zal (.inl rfl) (ev1 rfl)) ?_
  refine zae rfl rfl (qS (l := (yD B p)) (en := uc8) (j := 2) rfl qK (ev1 rfl) (ev1 rfl) (fun _ => rfl) (by decide) rfl (qaS (qaq rfl))) ?_
  refine zae rfl rfl (qV rfl tb5 (ev1 rfl) rfl) ?_
  refine zae rfl rfl (zal (.inl rfl) (ev1 rfl)) ?_
  refine zae rfl rfl (qS (l := (yD B p)) (en := uc8) (j := 3) rfl qK (ev1 rfl) (ev1 rfl) (fun _ => rfl) (by decide) rfl (qaS (qaq rfl))) ?_
  refine zae rfl rfl (qV rfl tb5 (ev1 rfl) rfl) ?_
  refine zae rfl rfl (zal (.inl rfl) (ev1 rfl)) ?_
  refine zae rfl rfl (qS (l := (yD B p)) (en := uc8) (j := 4) rfl qK (ev1 rfl) (ev1 rfl) (fun _ => rfl) (by decide) rfl (qaS (qaq rfl))) ?_
  refine zae rfl rfl (qV rfl tb5 (ev1 rfl) rfl) ?_
  refine zae rfl rfl (kW (ps := [(0, .tmp 13), (1, .tmp 16), (2, .tmp 19), (3, .tmp 22)]) rfl Gj Gm (vc (ev1 rfl) (vc (ev1 rfl) (vc (ev1 rfl) (vc (ev1 rfl) vn)))) rfl rfl) ?_
  refine zae rfl rfl (kW (ps := [(0, .tmp 10), (1, .tmp 23)]) rfl Gl wD (vc (ev1 rfl) (vc (ev1 rfl) vn)) rfl rfl) ?_
  refine yw rfl rfl (J0 (i := 0) [0, 1, 2] [] [] rfl (ev1 rfl) (ec (ev1 rfl) en) rfl rfl rfl (tr_y acc (bAt B p) (kt B p).2 ha hm (by omega)) rfl rfl rfl rfl rfl) rfl (by simp only [upd, zad, zaf]; exact rfl) ?_
  refine zae rfl rfl (kX rfl (ev1 rfl)) ?_
  refine qu ?_
  refine qj rfl (rfl) ?_
  refine qd ?_
  refine ⟨(f - 1, acc ++ qax (kt B p).1.toNat (kt B p).2, p + 5), [0, 1, 2, 3, 4, 5], ⟨by simp only [qap, qaG]; omega, h5, hy hd⟩, by simp only [qap, qaG]; omega, rfl, ⟨rfl, rfl, trivial⟩, ⟨rfl, rfl, by rw [qap, qaG]; rfl, rfl, rfl, rfl, trivial⟩⟩
theorem VP (B : List Int) (hB : B.length ≤ 4000000000000000000) (w h : Int) (us : List TL) (hu : us.length ≤ 5000) (hi : isB B) (p0 : Nat) (hp : p0 ≤ B.length) (h0 : rdN B p0 = none) : DPanL Try.prog 101 [.yld 0, .loc 3 0] [.lp (some 94) 48 [(3, .loc 1 0), (4, .loc 2 0)] #[8] GD GE .ready none, .flat 132 (tc zT), .flat 3 [.int .i64 0], .mix 155 [.loc 4 0], .mix 129 [.val (.int .i64 w), .val (.int .i64 h), .arr 5, .slf 1 (B).length ((B).flatMap uc8), .val (.int .i64 (p0 : Int))], .arr 132 256 (us).length ((us).flatMap tc)] (.ifc 153 (.val (.agg #[]))) := by
 refine zan (N := 27) 6 (by kernel_rfl) Try.func101 rfl rfl rfl (by simp only [fr0, qal, qam]; exact rfl) rfl fun s0 hs0 => ?_
 refine qf ?_
 refine qY ⟨hs0, rfl⟩ (α := Nat × List C4 × Nat) (fun x => []) [(0, _), (1, _)] (fun x => [(1, .flat 132 (tc (k8 x.2.1))), (2, .flat 3 [.int .i64 (x.2.1.length : Int)]), (4, .mix 129 [.val (.int .i64 w), .val (.int .i64 h), .arr 5, .slf 1 (B).length ((B).flatMap uc8), .val (.int .i64 (x.2.2 : Int))])]) [_, .hole, .hole, _, .hole, _] (fun x => x.2.1.length < 64 ∧ x.2.2 ≤ B.length ∧ 64 ≤ x.1 + x.2.1.length ∧ rdP B x.1 x.2.1 x.2.2 = none) (fun x => 64 - x.2.1.length) (64, [], p0) [0, 1, 2, 3, 4, 5] (⟨by show 0 < 64; decide, hp, qaE 64, by unfold rdN at h0; exact h0⟩) rfl ⟨rfl, rfl, trivial⟩ trivial ⟨rfl, by rw [Gz]; rfl, rfl, rfl, rfl, rfl, trivial⟩ ?_
 intro x hx
 simp only [upd, zad, zaf, qas, qaw]
 obtain ⟨f, acc, p⟩ := x
 obtain ⟨ha, hpl, hf, hrd⟩ := hx
 dsimp only at ha hpl hf hrd ⊢
 refine qf ?_
 refine zag ?_
 by_cases h5 : p + 5 ≤ B.length
 ·refine zac ?_
  refine za rfl (qb rfl Uc (ev1 rfl) rfl rfl) ?_
  refine zaj rfl (zai [4, 5] [] [] rfl (ev1 rfl) (ec (ev1 rfl) (ec (ev1 rfl) en)) rfl rfl (Ut B hB w h us hu p h5) rfl rfl rfl rfl rfl rfl) ?_
  refine zaa 1 rfl ?_
  refine zab ?_
  refine zag ?_
  by_cases hm : gT acc (kt B p).1 (kt B p).2 = true
  ·have hmn : (kt B p).1 = bAt B p := rfl
   obtain ⟨hn1, hn2, hn3⟩ := Up hf ha hrd h5 hm
   have hmg := (mayG_iff.1 hm).1
   refine qk [([], []), ([], []), ([], []), ([], []), ([], []), ([], []), ([], []), ([], []), ([], []), ([], []), ([], []), ([], []), ([], []), ([], []), ([], []), ([], []), ([], []), ([], []), ([], []), ([0, 1, 2], [0, 1, 2]), ([], [])] qW (by kernel_rfl) ?_
   refine zae rfl rfl (zal (.inl rfl) (ev1 rfl)) ?_
   refine zae rfl rfl (zal (.inl rfl) (ev1 rfl)) ?_
   refine zae rfl rfl (qS (l := (yD B p)) (en := uc8) (j := 0) rfl qK (ev1 rfl) (ev1 rfl) (fun _ => rfl) (by decide) rfl (qaS (qaq rfl))) ?_
   refine zae rfl rfl ((qV rfl tb5 (ev1 rfl) rfl).wk (Wk.of_eq (d' := .val (.int .u8 (bAt B p))) rfl)) ?_
   refine zae rfl rfl (ju ty5 kn3 rfl (ev1 rfl) (fun _ => by have := vX hi p; exact qat _ (by omega))) ?_
   refine zae rfl rfl (zal (.inl rfl) (ev1 rfl)) ?_
   refine zae rfl rfl (qS (l := (yD B p)) (en := uc8) (j := 1) rfl qK (ev1 rfl) (ev1 rfl) (fun _ => rfl) (by decide) rfl (qaS (qaq rfl))) ?_
   refine zae rfl rfl (qV rfl tb5 (ev1 rfl) rfl) ?_
   refine zae rfl rfl (zal (.inl rfl) (ev1 rfl)) ?_
   refine zae rfl rfl (qS (l := (yD B p)) (en := uc8) (j := 2) rfl qK (ev1 rfl) (ev1 rfl) (fun _ => rfl) (by decide) rfl (qaS (qaq rfl))) ?_
   refine zae rfl rfl (qV rfl tb5 (ev1 rfl) rfl) ?_
   refine zae rfl rfl (zal (.inl rfl) (ev1 rfl)) ?_
   refine zae rfl rfl (qS (l := (yD B p)) (en := uc8) (j := 3) rfl qK (ev1 rfl) (ev1 rfl) (fun _ => rfl) (by decide) rfl (qaS (qaq rfl))) ?_
   refine zae rfl rfl (qV rfl tb5 (ev1 rfl) rfl) ?_
   refine zae rfl rfl (zal (.inl rfl) (ev1 rfl)) ?_
   refine zae rfl rfl (qS (l := (yD B p)) (en := uc8) (j := 4) rfl qK (ev1 rfl) (ev1 rfl) (fun _ => rfl) (by decide) rfl (qaS (qaq rfl))) ?_
   refine zae rfl rfl (qV rfl tb5 (ev1 rfl) rfl) ?_
   refine zae rfl rfl (kW (ps := [(0, .tmp 13), (1, .tmp 16), (2, .tmp 19), (3, .tmp 22)]) rfl Gj Gm (vc (ev1 rfl) (vc (ev1 rfl) (vc (ev1 rfl) (vc (ev1 rfl) vn)))) rfl rfl) ?_
   refine zae rfl rfl (kW (ps := [(0, .tmp 10), (1, .tmp 23)]) rfl Gl wD (vc (ev1 rfl) (vc (ev1 rfl) vn)) rfl rfl) ?_
   refine yw rfl rfl (J0 (i := 0) [0, 1, 2] [] [] rfl (ev1 rfl) (ec (ev1 rfl) en) rfl rfl rfl (tr_y acc (bAt B p) (kt B p).2 ha hm (by omega)) rfl rfl rfl rfl rfl) rfl (by simp only [upd, zad, zaf]; exact rfl) ?_
   refine zae rfl rfl (kX rfl (ev1 rfl)) ?_
   refine qu ?_
   refine qj rfl (rfl) ?_
   refine qd ?_
   refine ⟨(f - 1, acc ++ qax (kt B p).1.toNat (kt B p).2, p + 5), [0, 1, 2, 3, 4, 5], ⟨by simp only [qap, qaG]; exact hn1, h5, by simp only [qap, qaG]; exact hn2, hn3⟩, by simp only [qap, qaG]; omega, rfl, ⟨rfl, rfl, trivial⟩, ⟨rfl, rfl, by rw [qap, qaG]; rfl, rfl, rfl, rfl, trivial⟩⟩
  ·have hm : gT acc (kt B p).1 (kt B p).2 = false := by simpa using hm
   refine yp 19 [([], []), ([], []), ([], []), ([], []), ([], []), ([], []), ([], []), ([], []), ([], []), ([], []), ([], []), ([], []), ([], []), ([], []), ([], []), ([], []), ([], []), ([], []), ([], [])] qW (by kernel_rfl) rfl rfl ?_
   refine zae rfl rfl (zal (.inl rfl) (ev1 rfl)) ?_
   refine zae rfl rfl (zal (.inl rfl) (ev1 rfl)) ?_
   refine zae rfl rfl (qS (l := (yD B p)) (en := uc8) (j := 0) rfl qK (ev1 rfl) (ev1 rfl) (fun _ => rfl) (by decide) rfl (qaS (qaq rfl))) ?_
   refine zae rfl rfl ((qV rfl tb5 (ev1 rfl) rfl).wk (Wk.of_eq (d' := .val (.int .u8 (bAt B p))) rfl)) ?_
   refine zae rfl rfl (ju ty5 kn3 rfl (ev1 rfl) (fun _ => by have := vX hi p; exact qat _ (by omega))) ?_
   refine zae rfl rfl (zal (.inl rfl) (ev1 rfl)) ?_
   refine zae rfl rfl (qS (l := (yD B p)) (en := uc8) (j := 1) rfl qK (ev1 rfl) (ev1 rfl) (fun _ => rfl) (by decide) rfl (qaS (qaq rfl))) ?_
   refine zae rfl rfl (qV rfl tb5 (ev1 rfl) rfl) ?_
   refine zae rfl rfl (zal (.inl rfl) (ev1 rfl)) ?_
   refine zae rfl rfl (qS (l := (yD B p)) (en := uc8) (j := 2) rfl qK (ev1 rfl) (ev1 rfl) (fun _ => rfl) (by decide) rfl (qaS (qaq rfl))) ?_
   refine zae rfl rfl (qV rfl tb5 (ev1 rfl) rfl) ?_
   refine zae rfl rfl (zal (.inl rfl) (ev1 rfl)) ?_
   refine zae rfl rfl (qS (l := (yD B p)) (en := uc8) (j := 3) rfl qK (ev1 rfl) (ev1 rfl) (fun _ => rfl) (by decide) rfl (qaS (qaq rfl))) ?_
   refine zae rfl rfl (qV rfl tb5 (ev1 rfl) rfl) ?_
   refine zae rfl rfl (zal (.inl rfl) (ev1 rfl)) ?_
   refine zae rfl rfl (qS (l := (yD B p)) (en := uc8) (j := 4) rfl qK (ev1 rfl) (ev1 rfl) (fun _ => rfl) (by decide) rfl (qaS (qaq rfl))) ?_
   refine zae rfl rfl (qV rfl tb5 (ev1 rfl) rfl) ?_
   refine zae rfl rfl (kW (ps := [(0, .tmp 13), (1, .tmp 16), (2, .tmp 19), (3, .tmp 22)]) rfl Gj Gm (vc (ev1 rfl) (vc (ev1 rfl) (vc (ev1 rfl) (vc (ev1 rfl) vn)))) rfl rfl) ?_
   refine zae rfl rfl (kW (ps := [(0, .tmp 10), (1, .tmp 23)]) rfl Gl wD (vc (ev1 rfl) (vc (ev1 rfl) vn)) rfl rfl) ?_
   refine qu ⟨_, _, _, rfl, op_yP (i := 0) [0, 1, 2] [] [] rfl (ev1 rfl) (ec (ev1 rfl) en) rfl rfl rfl (tr_p acc (bAt B p) (kt B p).2 ha hm) rfl rfl rfl rfl rfl rfl, ?_⟩
   refine yW (Mo := [_, _, _, _, _, _]) [0, 1, 2, 3, 4, 5] rfl rfl ?_ ⟨rfl, rfl, rfl, rfl, rfl, rfl, trivial⟩ rfl
   rfl
 ·refine zac ?_
  refine za rfl (qb rfl Uc (ev1 rfl) rfl rfl) ?_
  refine ke rfl (qA [4, 5] [] [] rfl (ev1 rfl) (ec (ev1 rfl) (ec (ev1 rfl) en)) rfl rfl ((VM B hB w h us hu p hpl h5).dead) rfl rfl rfl rfl rfl rfl) rfl ?_
  refine yW (Mo := [_, _, _, _, _, _]) [0, 1, 2, 3, 4, 5] rfl rfl ?_ ⟨rfl, rfl, rfl, rfl, rfl, rfl, trivial⟩ rfl
  rfl
theorem QJ (B : List Int) (hB : B.length ≤ 4000000000000000000) (w h : Int) (us : List TL) (hu : us.length ≤ 5000) (hi : isB B) (p0 : Nat) (hp : p0 ≤ B.length) (l : List C4) (q : Nat) (h0 : rdN B p0 = some (l, q)) : DFun Try.prog 94 [.loc 0 0] [.mix 129 [.val (.int .i64 w), .val (.int .i64 h), .arr 1, .slf 1 (B).length ((B).flatMap uc8), .val (.int .i64 (p0 : Int))], .arr 132 256 (us).length ((us).flatMap tc)] (.val (.agg (tc (k8 l)).toArray)) [.mix 129 [.val (.int .i64 w), .val (.int .i64 h), .arr 1, .slf 1 (B).length ((B).flatMap uc8), .val (.int .i64 (q : Int))], .arr 132 256 (us).length ((us).flatMap tc)] := by
 refine zB (N := 48) 2 (by kernel_rfl) Try.func94 rfl rfl rfl (by simp only [fr0, qal, qam]; exact rfl) rfl fun s0 hs0 => ?_
 refine jE ?_
 refine gr ?_
 refine zam 1 ?_
 refine zac ?_
 refine zaj rfl (zao 2 rfl jZ rfl) ?_
 refine zab ?_
 refine zA ?_
 refine jE ?_
 refine gr ?_
 refine zam 1 ?_
 refine zac ?_
 refine zaj rfl (zao 3 rfl jZ rfl) ?_
 refine zab ?_
 refine jE ?_
 refine gr ?_
 refine zam 1 ?_
 refine zac ?_
 refine zaj rfl (zao 4 rfl zr3 rfl) ?_
 refine qc rfl (qG rfl tb3 (ev1 rfl) (ev1 rfl) rfl) ?_
 refine zab ?_
 refine jE ?_
 refine gr ?_
 refine uS ?_
 refine jE ?_
 refine jE ?_
 refine gr ?_
 refine zam 1 ?_
 refine zac ?_
 refine zaa 1 rfl ?_
 refine zaj rfl (zai [0, 1] [] [5] rfl (ev1 rfl) (ec (ev1 rfl) en) rfl rfl (QI B hB w h us hu p0) rfl rfl rfl rfl rfl rfl) ?_
 refine zab ?_
 refine zz ?_
 refine KD ?_
 simp only [qas, qaw]
 refine WZ (FL := [(3, _), (4, _)]) (st := .done) (pe := (some (.exit 0))) [6, 3, 4, 5, 0, 1] [] [] 6 rfl rfl (ev1 rfl) rfl (we ⟨rfl, rfl, trivial⟩) rfl rfl rfl (VO B hB w h us hu hi p0 hp l q h0) rfl rfl rfl rfl rfl rfl rfl (by simp) (fun e => ?_) (fun c e => ?_)
 ·cases e
 ·cases e
  simp only [upd, zad, zaf]
  refine qQ ?_
  refine gr ?_
  refine zah ?_
  refine za rfl (kG rfl kv (ev1 rfl) rfl (qw _)) ?_
  refine qc rfl (q0 rfl kv (ev1 rfl) (ev1 rfl) rfl (qw _) (ya _) ((qw _).trans (qw _).symm)) ?_
  refine zab ?_
  refine qe ?_
  refine kc [0, 1] (rs1 rfl (vf kv rfl rfl (qw _))) rfl rfl ?_ ⟨rfl, rfl, trivial⟩
  rfl
theorem Zh (B : List Int) (hB : B.length ≤ 4000000000000000000) (w h : Int) (us : List TL) (hu : us.length ≤ 5000) (hi : isB B) (p0 : Nat) (hp : p0 ≤ B.length) (h0 : rdN B p0 = none) : DPanL Try.prog 94 [.loc 0 0] [.mix 129 [.val (.int .i64 w), .val (.int .i64 h), .arr 1, .slf 1 (B).length ((B).flatMap uc8), .val (.int .i64 (p0 : Int))], .arr 132 256 (us).length ((us).flatMap tc)] (.ifc 153 (.val (.agg #[]))) := by
 refine zB (N := 48) 2 (by kernel_rfl) Try.func94 rfl rfl rfl (by simp only [fr0, qal, qam]; exact rfl) rfl fun s0 hs0 => ?_
 refine jE ?_
 refine gr ?_
 refine zam 1 ?_
 refine zac ?_
 refine zaj rfl (zao 2 rfl jZ rfl) ?_
 refine zab ?_
 refine zA ?_
 refine jE ?_
 refine gr ?_
 refine zam 1 ?_
 refine zac ?_
 refine zaj rfl (zao 3 rfl jZ rfl) ?_
 refine zab ?_
 refine jE ?_
 refine gr ?_
 refine zam 1 ?_
 refine zac ?_
 refine zaj rfl (zao 4 rfl zr3 rfl) ?_
 refine qc rfl (qG rfl tb3 (ev1 rfl) (ev1 rfl) rfl) ?_
 refine zab ?_
 refine jE ?_
 refine gr ?_
 refine uS ?_
 refine jE ?_
 refine jE ?_
 refine gr ?_
 refine zam 1 ?_
 refine zac ?_
 refine zaa 1 rfl ?_
 refine zaj rfl (zai [0, 1] [] [5] rfl (ev1 rfl) (ec (ev1 rfl) en) rfl rfl (QI B hB w h us hu p0) rfl rfl rfl rfl rfl rfl) ?_
 refine zab ?_
 refine zz ?_
 refine KD ?_
 simp only [qas, qaw]
 refine W0 (FL := [(3, _), (4, _)]) [6, 3, 4, 5, 0, 1] [] [] 6 rfl rfl (ev1 rfl) rfl (we ⟨rfl, rfl, trivial⟩) rfl rfl rfl ((VP B hB w h us hu hi p0 hp h0).dead) rfl rfl rfl rfl rfl rfl rfl ?_
 simp only [upd, zad, zaf]
 refine yW (Mo := [_, _]) [0, 1] rfl rfl ?_ ⟨rfl, rfl, trivial⟩ rfl
 rfl
end Go.Proofs.Ytofklkbfkoliiaa
namespace Go.Proofs.Ytofklkbfkoliiaa
set_option linter.unusedVariables false
set_option linter.unusedSimpArgs false
open Go.RowKit
attribute [local irreducible] k8 rdP rdN gT
theorem Ax {I : Nat → Prop} {w h : Int} {ts : List TL} {d : D} (hf : Okd (NewCv I w h ts) d) : Wk d (.tup [cvD w h (dpR ts), .val (.int .i64 0)]) := by
 obtain ⟨_, ⟨A, hA, _, rfl⟩, rfl⟩ := hf
 exact Wk.tup (.cons ((zI hA).wkd w h) (.cons (.refl _) .nil))
theorem Ay (w h : Int) (n : Nat) (hm : gB w h = true) (hn : w * h = (n : Int)) : DFun Try.prog 84 [.val (.int .i64 w), .val (.int .i64 h)] [] (.tup [cvD w h (dpR (qax n (nT zC4))), .val (.int .i64 0)]) [] := (Au w h n hm hn).fun fun I d hf => Ax hf
theorem GF (B : List Int) (hB : B.length ≤ 4000000000000000000) (hi : isB B) (n : Nat) (h2 : 0 + 2 ≤ B.length) (hm : gB (bAt B 0) (bAt B 1) = true) (hn : bAt B 0 * bAt B 1 = (n : Int)) : DFun Try.prog 64 [.loc 0 0] [.mix 129 [.val (.int .i64 0), .val (.int .i64 0), .val (.slice none 0 0), .slf 1 (B).length ((B).flatMap uc8), .val (.int .i64 (0 : Int))]] (.tup []) [.mix 129 [.val (.int .i64 (bAt B 0)), .val (.int .i64 (bAt B 1)), .val (.slice none 0 0), .slf 1 (B).length ((B).flatMap uc8), .val (.int .i64 (2 : Int))]] := by
 refine zan (N := 41) 1 (by kernel_rfl) Try.func64 rfl rfl rfl (by simp only [fr0, qal, qam]; exact rfl) rfl fun s0 hs0 => ?_
 refine zah ?_
 refine zaa 1 rfl ?_
 refine zaj rfl (zai [0] [] [] rfl (ev1 rfl) (ec (ev1 rfl) (ec (ev1 rfl) en)) rfl rfl (Hp B hB 0 h2) rfl rfl rfl rfl rfl rfl) ?_
 refine zaa 1 rfl ?_
 refine zab ?_
 refine zag ?_
 refine qk [([], []), ([], []), ([], []), ([], []), ([], []), ([], []), ([], []), ([], []), ([], []), ([], []), ([], []), ([], []), ([], []), ([0], [0]), ([], []), ([], []), ([], []), ([0], [0])] qW (by kernel_rfl) ?_
 refine zae rfl rfl (zal (.inl rfl) (ev1 rfl)) ?_
 refine zae rfl rfl (zal (.inl rfl) (ev1 rfl)) ?_
 refine zae rfl rfl (zal (.inl rfl) (ev1 rfl)) ?_
 refine zae rfl rfl (qS (l := (VJ B 0)) (en := uc8) (j := 0) rfl qK (ev1 rfl) (ev1 rfl) (fun _ => rfl) (by decide) rfl (qaS (qaq rfl))) ?_
 refine zae rfl rfl ((qV rfl tb5 (ev1 rfl) rfl).wk (Wk.of_eq (d' := .val (.int .u8 (bAt B 0))) rfl)) ?_
 refine zae rfl rfl (ju ty5 kn3 rfl (ev1 rfl) (fun _ => by have := vX hi 0; exact qat _ (by omega))) ?_
 refine zae rfl rfl (zal (.inl rfl) (ev1 rfl)) ?_
 refine zae rfl rfl (qS (l := (VJ B 0)) (en := uc8) (j := 1) rfl qK (ev1 rfl) (ev1 rfl) (fun _ => rfl) (by decide) rfl (qaS (qaq rfl))) ?_
 refine zae rfl rfl ((qV rfl tb5 (ev1 rfl) rfl).wk (Wk.of_eq (d' := .val (.int .u8 (bAt B 1))) rfl)) ?_
 refine zae rfl rfl (ju ty5 kn3 rfl (ev1 rfl) (fun _ => by have := vX hi 1; exact qat _ (by omega))) ?_
 refine zae rfl rfl (qt rfl (ev1 rfl) (fun s v h => by cases h; exact ⟨_, rfl⟩)) ?_
 refine zae rfl rfl (qa rfl k7 (ev1 rfl)) ?_
 refine zae rfl rfl (qa rfl yM (ev1 rfl)) ?_
 refine jY rfl rfl (kF rfl tb3 (ev1 rfl) (ev1 rfl) (fun s v h => by cases h <;> exact ⟨rfl, rfl⟩) rfl (by first | decide | exact qaq rfl | simp)) rfl (by simp only [upd, zad, zaf]; exact rfl) ?_
 refine zae rfl rfl (qt rfl (ev1 rfl) (fun s v h => by cases h; exact ⟨_, rfl⟩)) ?_
 refine zae rfl rfl (qa rfl k7 (ev1 rfl)) ?_
 refine zae rfl rfl (qa rfl yN (ev1 rfl)) ?_
 refine jY rfl rfl (kF rfl tb3 (ev1 rfl) (ev1 rfl) (fun s v h => by cases h <;> exact ⟨rfl, rfl⟩) rfl (by first | decide | exact qaq rfl | simp)) rfl (by simp only [upd, zad, zaf]; exact rfl) ?_
 refine qu ?_
 refine zag ?_
 refine qk [([], []), ([], []), ([], []), ([], []), ([0], []), ([], []), ([], []), ([], []), ([], []), ([0], []), ([], []), ([], []), ([], []), ([], []), ([], []), ([], [])] qW (by kernel_rfl) ?_
 refine zae rfl rfl (zal (.inl rfl) (ev1 rfl)) ?_
 refine zae rfl rfl (qt rfl (ev1 rfl) (fun s v h => by cases h; exact ⟨_, rfl⟩)) ?_
 refine zae rfl rfl (qa rfl k7 (ev1 rfl)) ?_
 refine zae rfl rfl (qa rfl yM (ev1 rfl)) ?_
 refine zae rfl rfl (qb rfl tb3 (ev1 rfl) rfl rfl) ?_
 refine zae rfl rfl (zal (.inl rfl) (ev1 rfl)) ?_
 refine zae rfl rfl (qt rfl (ev1 rfl) (fun s v h => by cases h; exact ⟨_, rfl⟩)) ?_
 refine zae rfl rfl (qa rfl k7 (ev1 rfl)) ?_
 refine zae rfl rfl (qa rfl yN (ev1 rfl)) ?_
 refine zae rfl rfl (qb rfl tb3 (ev1 rfl) rfl rfl) ?_
 refine zae rfl rfl (zai [] [] [] rfl (ev1 rfl) (ec (ev1 rfl) (ec (ev1 rfl) en)) rfl rfl (Ay (bAt B 0) (bAt B 1) n hm hn) rfl rfl rfl rfl rfl rfl) ?_
 refine zae rfl rfl (zal (.inl rfl) (ev1 rfl)) ?_
 refine zae rfl rfl (jH rfl (ev1 rfl) rfl) ?_
 refine zae rfl rfl (jH rfl (ev1 rfl) rfl) ?_
 refine zae rfl rfl (zal (.inr rfl) (ev1 rfl)) ?_
 refine zae rfl rfl (zal (.inr rfl) (ev1 rfl)) ?_
 refine qu ?_
 refine zah ?_
 refine zaa 1 rfl ?_
 refine za rfl (ki rfl (ev1 rfl) (ev1 rfl)) ?_
 refine zab ?_
 refine qj rfl (rfl) ?_
 refine qd ?_
 refine kc [0] (qD rfl) rfl rfl ?_ ⟨rfl, trivial⟩
 rfl
theorem Uv (B : List Int) (hB : B.length ≤ 4000000000000000000) (hi : isB B) (h2 : ¬ 0 + 2 ≤ B.length) : DPanL Try.prog 64 [.loc 0 0] [.mix 129 [.val (.int .i64 0), .val (.int .i64 0), .val (.slice none 0 0), .slf 1 (B).length ((B).flatMap uc8), .val (.int .i64 (0 : Int))]] (.ifc 153 (.val (.agg #[]))) := by
 refine zan (N := 41) 1 (by kernel_rfl) Try.func64 rfl rfl rfl (by simp only [fr0, qal, qam]; exact rfl) rfl fun s0 hs0 => ?_
 refine zah ?_
 refine zaa 1 rfl ?_
 refine ke rfl (qA [0] [] [] rfl (ev1 rfl) (ec (ev1 rfl) (ec (ev1 rfl) en)) rfl rfl ((Us B hB 0 (qaZ _) h2).dead) rfl rfl rfl rfl rfl rfl) rfl ?_
 refine yW (Mo := [_]) [0] rfl rfl ?_ ⟨rfl, trivial⟩ rfl
 rfl
theorem Uw (B : List Int) (hB : B.length ≤ 4000000000000000000) (hi : isB B) (h2 : 0 + 2 ≤ B.length) (hm : gB (bAt B 0) (bAt B 1) = false) : DPanL Try.prog 64 [.loc 0 0] [.mix 129 [.val (.int .i64 0), .val (.int .i64 0), .val (.slice none 0 0), .slf 1 (B).length ((B).flatMap uc8), .val (.int .i64 (0 : Int))]] (.ifc 153 (.val (.agg #[]))) := by
 refine zan (N := 41) 1 (by kernel_rfl) Try.func64 rfl rfl rfl (by simp only [fr0, qal, qam]; exact rfl) rfl fun s0 hs0 => ?_
 refine zah ?_
 refine zaa 1 rfl ?_
 refine zaj rfl (zai [0] [] [] rfl (ev1 rfl) (ec (ev1 rfl) (ec (ev1 rfl) en)) rfl rfl (Hp B hB 0 h2) rfl rfl rfl rfl rfl rfl) ?_
 refine zaa 1 rfl ?_
 refine zab ?_
 refine zag ?_
 refine qk [([], []), ([], []), ([], []), ([], []), ([], []), ([], []), ([], []), ([], []), ([], []), ([], []), ([], []), ([], []), ([], []), ([0], [0]), ([], []), ([], []), ([], []), ([0], [0])] qW (by kernel_rfl) ?_
 refine zae rfl rfl (zal (.inl rfl) (ev1 rfl)) ?_
 refine zae rfl rfl (zal (.inl rfl) (ev1 rfl)) ?_
 refine zae rfl rfl (zal (.inl rfl) (ev1 rfl)) ?_
 refine zae rfl rfl (qS (l := (VJ B 0)) (en := uc8) (j := 0) rfl qK (ev1 rfl) (ev1 rfl) (fun _ => rfl) (by decide) rfl (qaS (qaq rfl))) ?_
 refine zae rfl rfl ((qV rfl tb5 (ev1 rfl) rfl).wk (Wk.of_eq (d' := .val (.int .u8 (bAt B 0))) rfl)) ?_
 refine zae rfl rfl (ju ty5 kn3 rfl (ev1 rfl) (fun _ => by have := vX hi 0; exact qat _ (by omega))) ?_
 refine zae rfl rfl (zal (.inl rfl) (ev1 rfl)) ?_
 refine zae rfl rfl (qS (l := (VJ B 0)) (en := uc8) (j := 1) rfl qK (ev1 rfl) (ev1 rfl) (fun _ => rfl) (by decide) rfl (qaS (qaq rfl))) ?_
 refine zae rfl rfl ((qV rfl tb5 (ev1 rfl) rfl).wk (Wk.of_eq (d' := .val (.int .u8 (bAt B 1))) rfl)) ?_
 refine zae rfl rfl (ju ty5 kn3 rfl (ev1 rfl) (fun _ => by have := vX hi 1; exact qat _ (by omega))) ?_
 refine zae rfl rfl (qt rfl (ev1 rfl) (fun s v h => by cases h; exact ⟨_, rfl⟩)) ?_
 refine zae rfl rfl (qa rfl k7 (ev1 rfl)) ?_
 refine zae rfl rfl (qa rfl yM (ev1 rfl)) ?_
 refine jY rfl rfl (kF rfl tb3 (ev1 rfl) (ev1 rfl) (fun s v h => by cases h <;> exact ⟨rfl, rfl⟩) rfl (by first | decide | exact qaq rfl | simp)) rfl (by simp only [upd, zad, zaf]; exact rfl) ?_
 refine zae rfl rfl (qt rfl (ev1 rfl) (fun s v h => by cases h; exact ⟨_, rfl⟩)) ?_
 refine zae rfl rfl (qa rfl k7 (ev1 rfl)) ?_
 refine zae rfl rfl (qa rfl yN (ev1 rfl)) ?_
 refine jY rfl rfl (kF rfl tb3 (ev1 rfl) (ev1 rfl) (fun s v h => by cases h <;> exact ⟨rfl, rfl⟩) rfl (by first | decide | exact qaq rfl | simp)) rfl (by simp only [upd, zad, zaf]; exact rfl) ?_
 refine qu ?_
 refine zag ?_
 refine qk [([], []), ([], []), ([], []), ([], []), ([0], []), ([], []), ([], []), ([], []), ([], []), ([0], []), ([], []), ([], []), ([], []), ([], []), ([], []), ([], [])] qW (by kernel_rfl) ?_
 refine zae rfl rfl (zal (.inl rfl) (ev1 rfl)) ?_
 refine zae rfl rfl (qt rfl (ev1 rfl) (fun s v h => by cases h; exact ⟨_, rfl⟩)) ?_
 refine zae rfl rfl (qa rfl k7 (ev1 rfl)) ?_
 refine zae rfl rfl (qa rfl yM (ev1 rfl)) ?_
 refine zae rfl rfl (qb rfl tb3 (ev1 rfl) rfl rfl) ?_
 refine zae rfl rfl (zal (.inl rfl) (ev1 rfl)) ?_
 refine zae rfl rfl (qt rfl (ev1 rfl) (fun s v h => by cases h; exact ⟨_, rfl⟩)) ?_
 refine zae rfl rfl (qa rfl k7 (ev1 rfl)) ?_
 refine zae rfl rfl (qa rfl yN (ev1 rfl)) ?_
 refine zae rfl rfl (qb rfl tb3 (ev1 rfl) rfl rfl) ?_
 refine zae rfl rfl (zai [] [] [] rfl (ev1 rfl) (ec (ev1 rfl) (ec (ev1 rfl) en)) rfl rfl (At (bAt B 0) (bAt B 1) hm) rfl rfl rfl rfl rfl rfl) ?_
 refine zae rfl rfl (zal (.inl rfl) (ev1 rfl)) ?_
 refine zae rfl rfl (jH rfl (ev1 rfl) rfl) ?_
 refine zae rfl rfl (jH rfl (ev1 rfl) rfl) ?_
 refine zae rfl rfl (zal (.inr rfl) (ev1 rfl)) ?_
 refine zae rfl rfl (zal (.inr rfl) (ev1 rfl)) ?_
 refine qu ?_
 refine zah ?_
 refine zaa 1 rfl ?_
 refine za rfl (ki rfl (ev1 rfl) (ev1 rfl)) ?_
 refine zab ?_
 refine qR rfl (rfl) ?_
 refine zac ?_
 refine za rfl (jG rfl Gk zG) ?_
 refine za rfl (xl rfl zE (ev1 rfl)) ?_
 refine ke rfl (vR rfl (ev1 rfl)) rfl ?_
 refine yW (Mo := [_]) [0] rfl rfl ?_ ⟨rfl, trivial⟩ rfl
 rfl
theorem Ux (us : List TL) (t : TL) : us.flatMap tc ++ ([Value.agg (tc t).toArray].flatMap fun v => v.cells.toList) = (us ++ [t]).flatMap tc := by
 rw [Ho, List.flatMap_append]
 congr 1
 exact (qa6 _).symm
theorem Uy (B : List Int) (hB : B.length ≤ 4000000000000000000) (w h : Int) (us : List TL) (hu : us.length ≤ 5000) (hi : isB B) (t : TL) (p : Nat) (hp : p ≤ B.length) (hz : (p < B.length ∧ bAt B p = 0)) : DFun Try.prog 85 [.loc 0 0, tD t] [.mix 129 [.val (.int .i64 w), .val (.int .i64 h), .arr 1, .slf 1 (B).length ((B).flatMap uc8), .val (.int .i64 (p : Int))], .arr 132 256 (us).length ((us).flatMap tc)] (.tup []) [.mix 129 [.val (.int .i64 w), .val (.int .i64 h), .arr 2, .slf 1 (B).length ((B).flatMap uc8), .val (.int .i64 ((p + 1 : Nat) : Int))], .gone, .arr 132 256 ((us ++ [t])).length (((us ++ [t])).flatMap tc)] := by
 refine zan (N := 55) 2 (by kernel_rfl) Try.func85 rfl rfl rfl (by simp only [fr0, qal, qam]; exact rfl) rfl fun s0 hs0 => ?_
 refine zag ?_
 refine zam 1 ?_
 refine zac ?_
 refine zaj rfl (gn 2 rfl (ev1 rfl) rfl) ?_
 refine zab ?_
 refine zag ?_
 refine zam 1 ?_
 refine zac ?_
 refine za rfl (kG rfl kv (ev1 rfl) rfl (qw _)) ?_
 refine zaj rfl (zao 3 rfl jZ rfl) ?_
 refine qc rfl (q0 rfl kv (ev1 rfl) (ev1 rfl) rfl (qw _) (ya _) ((qw _).trans (qw _).symm)) ?_
 refine zab ?_
 refine zag ?_
 refine zag ?_
 refine qk [([], []), ([], []), ([], []), ([0], []), ([], []), ([], []), ([], []), ([0], []), ([], []), ([], []), ([], []), ([], []), ([], []), ([], []), ([0], []), ([], []), ([], []), ([], []), ([0], []), ([], []), ([], []), ([], []), ([], [])] qW (by kernel_rfl) ?_
 refine zae rfl rfl (zal (.inl rfl) (ev1 rfl)) ?_
 refine zae rfl rfl (qt rfl (ev1 rfl) (fun s v h => by cases h; exact ⟨_, rfl⟩)) ?_
 refine zae rfl rfl (qa rfl kR (ev1 rfl)) ?_
 refine zae rfl rfl (qb rfl tb3 (ev1 rfl) rfl rfl) ?_
 refine zae rfl rfl (zal (.inl rfl) (ev1 rfl)) ?_
 refine zae rfl rfl (qt rfl (ev1 rfl) (fun s v h => by cases h; exact ⟨_, rfl⟩)) ?_
 refine zae rfl rfl (qa rfl jJ (ev1 rfl)) ?_
 refine zae rfl rfl (qb rfl kS (ev1 rfl) rfl rfl) ?_
 refine zae rfl rfl (qJ rfl qK (ev1 rfl)) ?_
 refine zae rfl rfl (qI rfl (ev1 rfl) (ev1 rfl)) ?_
 refine zae rfl rfl (zal (.inl rfl) (ev1 rfl)) ?_
 refine qg (qC rfl rfl rfl) rfl rfl (zal (.inl rfl) (ev1 rfl)) ?_
 refine qg (qC rfl rfl rfl) rfl rfl (qt rfl (ev2 rfl) (fun s v h => by cases h; exact ⟨_, rfl⟩)) ?_
 refine qg (qC rfl rfl rfl) rfl rfl (qa rfl jJ (ev2 rfl)) ?_
 refine qg (qC rfl rfl rfl) rfl rfl (qb rfl kS (ev2 rfl) rfl rfl) ?_
 refine qg (qC rfl rfl rfl) rfl rfl (zal (.inl rfl) (ev1 rfl)) ?_
 refine qg (qC rfl rfl rfl) rfl rfl (qt rfl (ev2 rfl) (fun s v h => by cases h; exact ⟨_, rfl⟩)) ?_
 refine qg (qC rfl rfl rfl) rfl rfl (qa rfl kR (ev2 rfl)) ?_
 refine qg (qC rfl rfl rfl) rfl rfl (qb rfl tb3 (ev2 rfl) rfl rfl) ?_
 refine qg (qC rfl rfl rfl) rfl rfl (xI (j := p) ((0 : Int)) rfl qK (ev2 rfl) (ev2 rfl) (fun _ => rfl) (by decide) (fun hp => by first | omega | (simp at hp; omega)) (fun hp => by first | omega | (simp at hp; omega))) ?_
 refine qg (qC rfl rfl rfl) rfl rfl (qV rfl tb5 (ev2 rfl) rfl) ?_
 refine qg (qC rfl rfl rfl) rfl rfl (qB rfl (ev2 rfl) (ev1 rfl)) ?_
 refine zae rfl rfl (q9 rfl (ev1 rfl) (ev3 rfl id)) ?_
 refine qu ?_
 refine qR rfl (by
 have h2 : B[p]?.getD 0 = 0 := by rw [← qaJ]; exact hz.2
 simp [h2]
 omega) ?_
 refine zac ?_
 refine zaa 1 rfl ?_
 refine za rfl (qt rfl (ev1 rfl) (fun s v h => by cases h; exact ⟨_, rfl⟩)) ?_
 refine za rfl (qa rfl kR (ev1 rfl)) ?_
 refine za rfl (qb rfl tb3 (ev1 rfl) rfl rfl) ?_
 refine za rfl (qx rfl (ev1 rfl) (ev1 rfl) (fun _ => qat _ (by omega))) ?_
 refine za rfl (qt rfl (ev1 rfl) (fun s v h => by cases h; exact ⟨_, rfl⟩)) ?_
 refine za rfl (qa rfl kR (ev1 rfl)) ?_
 refine qc rfl (kF rfl tb3 (ev1 rfl) (ev1 rfl) (fun s v h => by cases h <;> exact ⟨rfl, rfl⟩) rfl (by first | decide | exact qaq rfl | simp)) ?_
 refine zab ?_
 refine zam 2 ?_
 refine qk [([], []), ([], []), ([], []), ([], []), ([], []), ([0], []), ([3], []), ([4], [4]), ([1, 5, 4], [1, 5]), ([], []), ([], []), ([], []), ([0], [0])] qW (by kernel_rfl) ?_
 refine zae rfl rfl (zal (.inl rfl) (ev1 rfl)) ?_
 refine zae rfl rfl (zal (.inl rfl) (ev1 rfl)) ?_
 refine zae rfl rfl (qt rfl (ev1 rfl) (fun s v h => by cases h; exact ⟨_, rfl⟩)) ?_
 refine zae rfl rfl (qa rfl k7 (ev1 rfl)) ?_
 refine zae rfl rfl (qa rfl gY (ev1 rfl)) ?_
 refine zae rfl rfl (qb rfl xw (ev1 rfl) rfl rfl) ?_
 refine zae rfl rfl (kG rfl kv (ev1 rfl) rfl (qw _)) ?_
 refine yw rfl rfl (zj (ps := [(0, .tmp 49)]) 4 rfl wU jZ rfl (vc (ev1 rfl) vn) (Hn _) (by decide) (by decide) rfl) rfl (by simp only [upd, zad, zaf]; exact rfl) ?_
 refine yw rfl rfl (vd (j := 5) rfl wU jZ rfl (ev1 rfl) (ev1 rfl) (K7 rfl) rfl rfl (fun _ => Uj _) (fun _ => ⟨by omega, by omega⟩)) rfl (by simp only [upd, zad, zaf]; exact rfl) ?_
 refine zae rfl rfl (qt rfl (ev1 rfl) (fun s v h => by cases h; exact ⟨_, rfl⟩)) ?_
 refine zae rfl rfl (qa rfl k7 (ev1 rfl)) ?_
 refine zae rfl rfl (qa rfl gY (ev1 rfl)) ?_
 refine jY rfl rfl (kF rfl xw (ev1 rfl) (ev1 rfl) (fun s v h => by cases h <;> exact ⟨rfl, rfl⟩) rfl (by first | decide | exact qaq rfl | simp)) rfl (by simp only [upd, zad, zaf]; exact rfl) ?_
 refine qu ?_
 refine kc [0, 1, 5] (qD rfl) rfl rfl ?_ ⟨rfl, rfl, vh (by rw [qap]; rfl) (Ux us t), trivial⟩
 rfl
theorem Uz (B : List Int) (hB : B.length ≤ 4000000000000000000) (w h : Int) (us : List TL) (hu : us.length ≤ 5000) (hi : isB B) (t : TL) (p : Nat) (hp : p ≤ B.length) (hz : ¬ (p < B.length ∧ bAt B p = 0)) (l : List C4) (q : Nat) (h0 : rdN B p = some (l, q)) (hne : k8 l ≠ t) : DFun Try.prog 85 [.loc 0 0, tD t] [.mix 129 [.val (.int .i64 w), .val (.int .i64 h), .arr 1, .slf 1 (B).length ((B).flatMap uc8), .val (.int .i64 (p : Int))], .arr 132 256 (us).length ((us).flatMap tc)] (.tup []) [.mix 129 [.val (.int .i64 w), .val (.int .i64 h), .arr 2, .slf 1 (B).length ((B).flatMap uc8), .val (.int .i64 ((q : Nat) : Int))], .gone, .arr 132 256 ((us ++ [k8 l])).length (((us ++ [k8 l])).flatMap tc)] := by
 refine zan (N := 55) 2 (by kernel_rfl) Try.func85 rfl rfl rfl (by simp only [fr0, qal, qam]; exact rfl) rfl fun s0 hs0 => ?_
 refine zag ?_
 refine zam 1 ?_
 refine zac ?_
 refine zaj rfl (gn 2 rfl (ev1 rfl) rfl) ?_
 refine zab ?_
 refine zag ?_
 refine zam 1 ?_
 refine zac ?_
 refine za rfl (kG rfl kv (ev1 rfl) rfl (qw _)) ?_
 refine zaj rfl (zao 3 rfl jZ rfl) ?_
 refine qc rfl (q0 rfl kv (ev1 rfl) (ev1 rfl) rfl (qw _) (ya _) ((qw _).trans (qw _).symm)) ?_
 refine zab ?_
 refine zag ?_
 refine zag ?_
 refine qk [([], []), ([], []), ([], []), ([0], []), ([], []), ([], []), ([], []), ([0], []), ([], []), ([], []), ([], []), ([], []), ([], []), ([], []), ([0], []), ([], []), ([], []), ([], []), ([0], []), ([], []), ([], []), ([], []), ([], [])] qW (by kernel_rfl) ?_
 refine zae rfl rfl (zal (.inl rfl) (ev1 rfl)) ?_
 refine zae rfl rfl (qt rfl (ev1 rfl) (fun s v h => by cases h; exact ⟨_, rfl⟩)) ?_
 refine zae rfl rfl (qa rfl kR (ev1 rfl)) ?_
 refine zae rfl rfl (qb rfl tb3 (ev1 rfl) rfl rfl) ?_
 refine zae rfl rfl (zal (.inl rfl) (ev1 rfl)) ?_
 refine zae rfl rfl (qt rfl (ev1 rfl) (fun s v h => by cases h; exact ⟨_, rfl⟩)) ?_
 refine zae rfl rfl (qa rfl jJ (ev1 rfl)) ?_
 refine zae rfl rfl (qb rfl kS (ev1 rfl) rfl rfl) ?_
 refine zae rfl rfl (qJ rfl qK (ev1 rfl)) ?_
 refine zae rfl rfl (qI rfl (ev1 rfl) (ev1 rfl)) ?_
 refine zae rfl rfl (zal (.inl rfl) (ev1 rfl)) ?_
 refine qg (qC rfl rfl rfl) rfl rfl (zal (.inl rfl) (ev1 rfl)) ?_
 refine qg (qC rfl rfl rfl) rfl rfl (qt rfl (ev2 rfl) (fun s v h => by cases h; exact ⟨_, rfl⟩)) ?_
 refine qg (qC rfl rfl rfl) rfl rfl (qa rfl jJ (ev2 rfl)) ?_
 refine qg (qC rfl rfl rfl) rfl rfl (qb rfl kS (ev2 rfl) rfl rfl) ?_
 refine qg (qC rfl rfl rfl) rfl rfl (zal (.inl rfl) (ev1 rfl)) ?_
 refine qg (qC rfl rfl rfl) rfl rfl (qt rfl (ev2 rfl) (fun s v h => by cases h; exact ⟨_, rfl⟩)) ?_
 refine qg (qC rfl rfl rfl) rfl rfl (qa rfl kR (ev2 rfl)) ?_
 refine qg (qC rfl rfl rfl) rfl rfl (qb rfl tb3 (ev2 rfl) rfl rfl) ?_
 refine qg (qC rfl rfl rfl) rfl rfl (xI (j := p) ((0 : Int)) rfl qK (ev2 rfl) (ev2 rfl) (fun _ => rfl) (by decide) (fun hp => by first | omega | (simp at hp; omega)) (fun hp => by first | omega | (simp at hp; omega))) ?_
 refine qg (qC rfl rfl rfl) rfl rfl (qV rfl tb5 (ev2 rfl) rfl) ?_
 refine qg (qC rfl rfl rfl) rfl rfl (qB rfl (ev2 rfl) (ev1 rfl)) ?_
 refine zae rfl rfl (q9 rfl (ev1 rfl) (ev3 rfl id)) ?_
 refine qu ?_
 refine qj rfl (by
 rw [Bool.eq_false_iff]
 intro h
 simp at h
 exact hz ⟨by omega, by unfold bAt; rw [qaJ]; exact h.2⟩) ?_
 refine zah ?_
 refine zaa 1 rfl ?_
 refine zaj rfl (zai [0, 1] [] [] rfl (ev1 rfl) (ec (ev1 rfl) en) rfl rfl (QJ B hB w h us hu hi p hp l q h0) rfl rfl rfl rfl rfl rfl) ?_
 refine qc rfl (q0 rfl kv (ev1 rfl) (ev1 rfl) rfl (qw _) (ya _) ((qw _).trans (qw _).symm)) ?_
 refine zab ?_
 refine zah ?_
 refine za rfl (kG rfl kv (ev1 rfl) rfl (qw _)) ?_
 refine za rfl (kG rfl kv (ev1 rfl) rfl (qw _)) ?_
 refine za rfl (vg Qx rfl QB kv (ev1 rfl) (ev1 rfl)) ?_
 refine zab ?_
 refine qj rfl (by simpa using hne) ?_
 refine qd ?_
 refine zam 2 ?_
 refine qk [([], []), ([], []), ([], []), ([], []), ([], []), ([0], []), ([3], []), ([4], [4]), ([1, 5, 4], [1, 5]), ([], []), ([], []), ([], []), ([0], [0])] qW (by kernel_rfl) ?_
 refine zae rfl rfl (zal (.inl rfl) (ev1 rfl)) ?_
 refine zae rfl rfl (zal (.inl rfl) (ev1 rfl)) ?_
 refine zae rfl rfl (qt rfl (ev1 rfl) (fun s v h => by cases h; exact ⟨_, rfl⟩)) ?_
 refine zae rfl rfl (qa rfl k7 (ev1 rfl)) ?_
 refine zae rfl rfl (qa rfl gY (ev1 rfl)) ?_
 refine zae rfl rfl (qb rfl xw (ev1 rfl) rfl rfl) ?_
 refine zae rfl rfl (kG rfl kv (ev1 rfl) rfl (qw _)) ?_
 refine yw rfl rfl (zj (ps := [(0, .tmp 49)]) 4 rfl wU jZ rfl (vc (ev1 rfl) vn) (Hn _) (by decide) (by decide) rfl) rfl (by simp only [upd, zad, zaf]; exact rfl) ?_
 refine yw rfl rfl (vd (j := 5) rfl wU jZ rfl (ev1 rfl) (ev1 rfl) (K7 rfl) rfl rfl (fun _ => Uj _) (fun _ => ⟨by omega, by omega⟩)) rfl (by simp only [upd, zad, zaf]; exact rfl) ?_
 refine zae rfl rfl (qt rfl (ev1 rfl) (fun s v h => by cases h; exact ⟨_, rfl⟩)) ?_
 refine zae rfl rfl (qa rfl k7 (ev1 rfl)) ?_
 refine zae rfl rfl (qa rfl gY (ev1 rfl)) ?_
 refine jY rfl rfl (kF rfl xw (ev1 rfl) (ev1 rfl) (fun s v h => by cases h <;> exact ⟨rfl, rfl⟩) rfl (by first | decide | exact qaq rfl | simp)) rfl (by simp only [upd, zad, zaf]; exact rfl) ?_
 refine qu ?_
 refine kc [0, 1, 5] (qD rfl) rfl rfl ?_ ⟨rfl, rfl, vh (by rw [qap]; rfl) (Ux us (k8 l)), trivial⟩
 rfl
theorem Zi (B : List Int) (hB : B.length ≤ 4000000000000000000) (w h : Int) (us : List TL) (hu : us.length ≤ 5000) (hi : isB B) (t : TL) (p : Nat) (hp : p ≤ B.length) (hz : ¬ (p < B.length ∧ bAt B p = 0)) (h0 : rdN B p = none) : DPanL Try.prog 85 [.loc 0 0, tD t] [.mix 129 [.val (.int .i64 w), .val (.int .i64 h), .arr 1, .slf 1 (B).length ((B).flatMap uc8), .val (.int .i64 (p : Int))], .arr 132 256 (us).length ((us).flatMap tc)] (.ifc 153 (.val (.agg #[]))) := by
 refine zan (N := 55) 2 (by kernel_rfl) Try.func85 rfl rfl rfl (by simp only [fr0, qal, qam]; exact rfl) rfl fun s0 hs0 => ?_
 refine zag ?_
 refine zam 1 ?_
 refine zac ?_
 refine zaj rfl (gn 2 rfl (ev1 rfl) rfl) ?_
 refine zab ?_
 refine zag ?_
 refine zam 1 ?_
 refine zac ?_
 refine za rfl (kG rfl kv (ev1 rfl) rfl (qw _)) ?_
 refine zaj rfl (zao 3 rfl jZ rfl) ?_
 refine qc rfl (q0 rfl kv (ev1 rfl) (ev1 rfl) rfl (qw _) (ya _) ((qw _).trans (qw _).symm)) ?_
 refine zab ?_
 refine zag ?_
 refine zag ?_
 refine qk [([], []), ([], []), ([], []), ([0], []), ([], []), ([], []), ([], []), ([0], []), ([], []), ([], []), ([], []), ([], []), ([], []), ([], []), ([0], []), ([], []), ([], []), ([], []), ([0], []), ([], []), ([], []), ([], []), ([], [])] qW (by kernel_rfl) ?_
 refine zae rfl rfl (zal (.inl rfl) (ev1 rfl)) ?_
 refine zae rfl rfl (qt rfl (ev1 rfl) (fun s v h => by cases h; exact ⟨_, rfl⟩)) ?_
 refine zae rfl rfl (qa rfl kR (ev1 rfl)) ?_
 refine zae rfl rfl (qb rfl tb3 (ev1 rfl) rfl rfl) ?_
 refine zae rfl rfl (zal (.inl rfl) (ev1 rfl)) ?_
 refine zae rfl rfl (qt rfl (ev1 rfl) (fun s v h => by cases h; exact ⟨_, rfl⟩)) ?_
 refine zae rfl rfl (qa rfl jJ (ev1 rfl)) ?_
 refine zae rfl rfl (qb rfl kS (ev1 rfl) rfl rfl) ?_
 refine zae rfl rfl (qJ rfl qK (ev1 rfl)) ?_
 refine zae rfl rfl (qI rfl (ev1 rfl) (ev1 rfl)) ?_
 refine zae rfl rfl (zal (.inl rfl) (ev1 rfl)) ?_
 refine qg (qC rfl rfl rfl) rfl rfl (zal (.inl rfl) (ev1 rfl)) ?_
 refine qg (qC rfl rfl rfl) rfl rfl (qt rfl (ev2 rfl) (fun s v h => by cases h; exact ⟨_, rfl⟩)) ?_
 refine qg (qC rfl rfl rfl) rfl rfl (qa rfl jJ (ev2 rfl)) ?_
 refine qg (qC rfl rfl rfl) rfl rfl (qb rfl kS (ev2 rfl) rfl rfl) ?_
 refine qg (qC rfl rfl rfl) rfl rfl (zal (.inl rfl) (ev1 rfl)) ?_
 refine qg (qC rfl rfl rfl) rfl rfl (qt rfl (ev2 rfl) (fun s v h => by cases h; exact ⟨_, rfl⟩)) ?_
 refine qg (qC rfl rfl rfl) rfl rfl (qa rfl kR (ev2 rfl)) ?_
 refine qg (qC rfl rfl rfl) rfl rfl (qb rfl tb3 (ev2 rfl) rfl rfl) ?_
 refine qg (qC rfl rfl rfl) rfl rfl (xI (j := p) ((0 : Int)) rfl qK (ev2 rfl) (ev2 rfl) (fun _ => rfl) (by decide) (fun hp => by first | omega | (simp at hp; omega)) (fun hp => by first | omega | (simp at hp; omega))) ?_
 refine qg (qC rfl rfl rfl) rfl rfl (qV rfl tb5 (ev2 rfl) rfl) ?_
 refine qg (qC rfl rfl rfl) rfl rfl (qB rfl (ev2 rfl) (ev1 rfl)) ?_
 refine zae rfl rfl (q9 rfl (ev1 rfl) (ev3 rfl id)) ?_
 refine qu ?_
 refine qj rfl (by
 rw [Bool.eq_false_iff]
 intro h
 simp at h
 exact hz ⟨by omega, by unfold bAt; rw [qaJ]; exact h.2⟩) ?_
 refine zah ?_
 refine zaa 1 rfl ?_
 refine ke rfl (qA [0, 1] [] [] rfl (ev1 rfl) (ec (ev1 rfl) en) rfl rfl ((Zh B hB w h us hu hi p hp h0).dead) rfl rfl rfl rfl rfl rfl) rfl ?_
 refine yW (Mo := [_, _]) [0, 1] rfl rfl ?_ ⟨rfl, rfl, trivial⟩ rfl
 rfl
theorem Zj (B : List Int) (hB : B.length ≤ 4000000000000000000) (w h : Int) (us : List TL) (hu : us.length ≤ 5000) (hi : isB B) (t : TL) (p : Nat) (hp : p ≤ B.length) (hz : ¬ (p < B.length ∧ bAt B p = 0)) (l : List C4) (q : Nat) (h0 : rdN B p = some (l, q)) (hne : k8 l = t) : DPanL Try.prog 85 [.loc 0 0, tD t] [.mix 129 [.val (.int .i64 w), .val (.int .i64 h), .arr 1, .slf 1 (B).length ((B).flatMap uc8), .val (.int .i64 (p : Int))], .arr 132 256 (us).length ((us).flatMap tc)] (.ifc 153 (.val (.agg #[]))) := by
 refine zan (N := 55) 2 (by kernel_rfl) Try.func85 rfl rfl rfl (by simp only [fr0, qal, qam]; exact rfl) rfl fun s0 hs0 => ?_
 refine zag ?_
 refine zam 1 ?_
 refine zac ?_
 refine zaj rfl (gn 2 rfl (ev1 rfl) rfl) ?_
 refine zab ?_
 refine zag ?_
 refine zam 1 ?_
 refine zac ?_
 refine za rfl (kG rfl kv (ev1 rfl) rfl (qw _)) ?_
 refine zaj rfl (zao 3 rfl jZ rfl) ?_
 refine qc rfl (q0 rfl kv (ev1 rfl) (ev1 rfl) rfl (qw _) (ya _) ((qw _).trans (qw _).symm)) ?_
 refine zab ?_
 refine zag ?_
 refine zag ?_
 refine qk [([], []), ([], []), ([], []), ([0], []), ([], []), ([], []), ([], []), ([0], []), ([], []), ([], []), ([], []), ([], []), ([], []), ([], []), ([0], []), ([], []), ([], []), ([], []), ([0], []), ([], []), ([], []), ([], []), ([], [])] qW (by kernel_rfl) ?_
 refine zae rfl rfl (zal (.inl rfl) (ev1 rfl)) ?_
 refine zae rfl rfl (qt rfl (ev1 rfl) (fun s v h => by cases h; exact ⟨_, rfl⟩)) ?_
 refine zae rfl rfl (qa rfl kR (ev1 rfl)) ?_
 refine zae rfl rfl (qb rfl tb3 (ev1 rfl) rfl rfl) ?_
 refine zae rfl rfl (zal (.inl rfl) (ev1 rfl)) ?_
 refine zae rfl rfl (qt rfl (ev1 rfl) (fun s v h => by cases h; exact ⟨_, rfl⟩)) ?_
 refine zae rfl rfl (qa rfl jJ (ev1 rfl)) ?_
 refine zae rfl rfl (qb rfl kS (ev1 rfl) rfl rfl) ?_
 refine zae rfl rfl (qJ rfl qK (ev1 rfl)) ?_
 refine zae rfl rfl (qI rfl (ev1 rfl) (ev1 rfl)) ?_
 refine zae rfl rfl (zal (.inl rfl) (ev1 rfl)) ?_
 refine qg (qC rfl rfl rfl) rfl rfl (zal (.inl rfl) (ev1 rfl)) ?_
 refine qg (qC rfl rfl rfl) rfl rfl (qt rfl (ev2 rfl) (fun s v h => by cases h; exact ⟨_, rfl⟩)) ?_
 refine qg (qC rfl rfl rfl) rfl rfl (qa rfl jJ (ev2 rfl)) ?_
 refine qg (qC rfl rfl rfl) rfl rfl (qb rfl kS (ev2 rfl) rfl rfl) ?_
 refine qg (qC rfl rfl rfl) rfl rfl (zal (.inl rfl) (ev1 rfl)) ?_
 refine qg (qC rfl rfl rfl) rfl rfl (qt rfl (ev2 rfl) (fun s v h => by cases h; exact ⟨_, rfl⟩)) ?_
 refine qg (qC rfl rfl rfl) rfl rfl (qa rfl kR (ev2 rfl)) ?_
 refine qg (qC rfl rfl rfl) rfl rfl (qb rfl tb3 (ev2 rfl) rfl rfl) ?_
 refine qg (qC rfl rfl rfl) rfl rfl (xI (j := p) ((0 : Int)) rfl qK (ev2 rfl) (ev2 rfl) (fun _ => rfl) (by decide) (fun hp => by first | omega | (simp at hp; omega)) (fun hp => by first | omega | (simp at hp; omega))) ?_
 refine qg (qC rfl rfl rfl) rfl rfl (qV rfl tb5 (ev2 rfl) rfl) ?_
 refine qg (qC rfl rfl rfl) rfl rfl (qB rfl (ev2 rfl) (ev1 rfl)) ?_
 refine zae rfl rfl (q9 rfl (ev1 rfl) (ev3 rfl id)) ?_
 refine qu ?_
 refine qj rfl (by
 rw [Bool.eq_false_iff]
 intro h
 simp at h
 exact hz ⟨by omega, by unfold bAt; rw [qaJ]; exact h.2⟩) ?_
 refine zah ?_
 refine zaa 1 rfl ?_
 refine zaj rfl (zai [0, 1] [] [] rfl (ev1 rfl) (ec (ev1 rfl) en) rfl rfl (QJ B hB w h us hu hi p hp l q h0) rfl rfl rfl rfl rfl rfl) ?_
 refine qc rfl (q0 rfl kv (ev1 rfl) (ev1 rfl) rfl (qw _) (ya _) ((qw _).trans (qw _).symm)) ?_
 refine zab ?_
 refine zah ?_
 refine za rfl (kG rfl kv (ev1 rfl) rfl (qw _)) ?_
 refine za rfl (kG rfl kv (ev1 rfl) rfl (qw _)) ?_
 refine za rfl (vg Qx rfl QB kv (ev1 rfl) (ev1 rfl)) ?_
 refine zab ?_
 refine qR rfl (by simpa using hne) ?_
 refine zac ?_
 refine za rfl (jG rfl Gk zG) ?_
 refine za rfl (xl rfl zE (ev1 rfl)) ?_
 refine ke rfl (vR rfl (ev1 rfl)) rfl ?_
 refine yW (Mo := [_, _]) [0, 1] rfl rfl ?_ ⟨rfl, rfl, trivial⟩ rfl
 rfl
end Go.Proofs.Ytofklkbfkoliiaa
namespace Go.Proofs.Ytofklkbfkoliiaa
set_option linter.unusedVariables false
set_option linter.unusedSimpArgs false
open Go.RowKit
attribute [local irreducible] k8 rdP rdN gT
def zrB (B : List Int) (p : Nat) : Bool := decide (p < B.length) && decide (bAt B p = 0)
theorem zrB_iff {B : List Int} {p : Nat} : zrB B p = true ↔ p < B.length ∧ bAt B p = 0 := by unfold zrB; simp
def jX (kn : List TL → TL) (B : List Int) : Nat → List TL → Nat → Option (List TL × Nat)
 | 0, acc, p => some (acc, p)
 | n + 1, acc, p => if zrB B p = true then jX kn B n (acc ++ [kn acc]) (p + 1) else match rdN B p with
  | some x => if k8 x.1 = kn acc then none else jX kn B n (acc ++ [k8 x.1]) x.2
  | none => none
theorem Jr {B : List Int} {p q : Nat} {l : List C4} (h : rdN B p = some (l, q)) : q ≤ B.length ∧ p ≤ q ∧ l.length = 64 := by
 unfold rdN at h
 exact YB h
theorem xQ (kn : List TL → TL) (B : List Int) : ∀ (n : Nat) (acc : List TL) (p : Nat), p ≤ B.length → Kb kn n acc (B.drop p) = (jX kn B n acc p).map fun x => (x.1, B.drop x.2)
 | 0, _, _, _ => rfl
 | n + 1, acc, p, h => by
  have hz : (B.drop p).head? = some 0 ↔ zrB B p = true := by
   rw [zrB_iff]
   by_cases hp : p < B.length
   ·rw [jc hp]
    simp [hp]
   ·rw [List.drop_eq_nil_of_le (by omega)]
    simp
    omega
  rw [Kb, jX]
  by_cases hc : zrB B p = true
  ·rw [if_pos (hz.2 hc), if_pos hc, List.drop_drop]
   exact xQ kn B n _ (p + 1) (zrB_iff.1 hc).1
  ·rw [if_neg (fun e => hc (hz.1 e)), if_neg hc, rdN_T h]
   cases hx : rdN B p with
   | none => rfl
   | some x =>
    obtain ⟨l, q⟩ := x
    simp only [Option.map_some]
    by_cases hk : k8 l = kn acc
    ·rw [if_pos hk, if_pos hk]; rfl
    ·rw [if_neg hk, if_neg hk]; exact xQ kn B n _ q (Jr hx).1
theorem YE {kn : List TL → TL} {B : List Int} {n : Nat} {acc : List TL} {p : Nat} {r : Option (List TL × Nat)} (hn : 0 < n) (hz : zrB B p = true) (h : jX kn B n acc p = r) : jX kn B (n - 1) (acc ++ [kn acc]) (p + 1) = r := by
 cases n with
 | zero => omega
 | succ n => rw [jX, if_pos hz] at h; exact h
theorem YF {kn : List TL → TL} {B : List Int} {n : Nat} {acc : List TL} {p q : Nat} {l : List C4} {r : Option (List TL × Nat)} (hn : 0 < n) (hz : ¬ zrB B p = true) (h0 : rdN B p = some (l, q)) (hne : k8 l ≠ kn acc) (h : jX kn B n acc p = r) : jX kn B (n - 1) (acc ++ [k8 l]) q = r := by
 cases n with
 | zero => omega
 | succ n => rw [jX, if_neg hz, h0] at h; simp only at h; rw [if_neg hne] at h; exact h
theorem KN {kn : List TL → TL} {B : List Int} {n : Nat} {acc : List TL} {p : Nat} {x : List TL × Nat} (hn : 0 < n) (hz : ¬ zrB B p = true) (h : jX kn B n acc p = some x) : ∃ l q, rdN B p = some (l, q) ∧ k8 l ≠ kn acc := by
 cases n with
 | zero => omega
 | succ n =>
  rw [jX, if_neg hz] at h
  cases hx : rdN B p with
  | none => rw [hx] at h; cases h
  | some y =>
   obtain ⟨l, q⟩ := y
   rw [hx] at h
   simp only at h
   by_cases hk : k8 l = kn acc
   ·rw [if_pos hk] at h; cases h
   ·exact ⟨l, q, rfl, hk⟩
theorem uG {kn : List TL → TL} {B : List Int} : ∀ {n : Nat} {acc : List TL} {p : Nat} {ts : List TL} {q : Nat}, p ≤ B.length → jX kn B n acc p = some (ts, q) → ts.length = acc.length + n ∧ p ≤ q ∧ q ≤ B.length
 | 0, acc, p, ts, q, hp, h => by cases h; exact ⟨rfl, qaE _, hp⟩
 | n + 1, acc, p, ts, q, hp, h => by
  by_cases hz : zrB B p = true
  ·obtain ⟨h1, h2, h3⟩ := uG (zrB_iff.1 hz).1 (YE (Nat.succ_pos n) hz h)
   exact ⟨by rw [h1, qap]; simp; omega, by omega, h3⟩
  ·obtain ⟨l, q', h0, hne⟩ := KN (Nat.succ_pos n) hz h
   obtain ⟨g1, g2, _⟩ := Jr h0
   obtain ⟨h1, h2, h3⟩ := uG g1 (YF (Nat.succ_pos n) hz h0 hne h)
   exact ⟨by rw [h1, qap]; simp; omega, by omega, h3⟩
theorem KO {us : List TL} (h : 0 < us.length) : ka us = us[us.length - 1] := by
 unfold ka
 rw [List.getLastD_eq_getLast?, List.getLast?_eq_getElem?, qak (by omega)]
 rfl
theorem VQ {us : List TL} {k : Nat} (h0 : 0 < k) (h : k ≤ us.length) : ka (us.take k) = us[k - 1] := by
 rw [KO (by rw [qaN]; omega)]
 simp only [qaN, List.getElem_take]
 congr 1
 omega
theorem Az (B : List Int) (hB : B.length ≤ 4000000000000000000) (w h : Int) (us : List TL) (hu : us.length ≤ 5000) (hi : isB B) (t : TL) (p : Nat) (hp : p ≤ B.length) (hz : ¬ (p < B.length ∧ bAt B p = 0)) (hno : ∀ l q, rdN B p = some (l, q) → k8 l = t) : DPanL Try.prog 85 [.loc 0 0, tD t] [.mix 129 [.val (.int .i64 w), .val (.int .i64 h), .arr 1, .slf 1 (B).length ((B).flatMap uc8), .val (.int .i64 (p : Int))], .arr 132 256 (us).length ((us).flatMap tc)] (.ifc 153 (.val (.agg #[]))) := by
 cases h0 : rdN B p with
 | none => exact Zi B hB w h us hu hi t p hp hz h0
 | some x => exact Zj B hB w h us hu hi t p hp hz x.1 x.2 h0 (hno _ _ h0)
theorem uH (B : List Int) (hB : B.length ≤ 4000000000000000000) (w h : Int) (us : List TL) (hu : us.length ≤ 5000) (p : Nat) : DFun Try.prog 75 [.val (.int .i64 (us.length : Int)), .loc 2 0] [.mix 129 [.val (.int .i64 w), .val (.int .i64 h), .arr 1, .slf 1 (B).length ((B).flatMap uc8), .val (.int .i64 (p : Int))], .arr 132 256 (us).length ((us).flatMap tc), .mix 119 [.loc 0 0]] (.val (.agg (tc (ka us)).toArray)) [.mix 129 [.val (.int .i64 w), .val (.int .i64 h), .arr 1, .slf 1 (B).length ((B).flatMap uc8), .val (.int .i64 (p : Int))], .arr 132 256 (us).length ((us).flatMap tc), .mix 119 [.loc 0 0]] := by
 refine zan (N := 15) 3 (by kernel_rfl) Try.func75 rfl rfl rfl (by simp only [fr0, qal, qam]; exact rfl) rfl fun s0 hs0 => ?_
 refine zag ?_
 refine zam 1 ?_
 refine zac ?_
 refine zaj rfl (zao 3 rfl jZ rfl) ?_
 refine zab ?_
 refine zag ?_
 refine zah ?_
 refine zaa 1 rfl ?_
 refine za rfl (qB rfl (ev1 rfl) (ev1 rfl)) ?_
 refine zab ?_
 refine qv rfl (fun c1 => ?_) (fun c1 => ?_)
 ·try simp only [decide_eq_true_eq, decide_eq_false_iff_not, beq_iff_eq, bne_iff_ne, beq_eq_false_iff_ne, bne_eq_false_iff_eq, qau, qay, qan, qaA, qar, ne_eq, Decidable.not_not, qaO, qaP] at c1
  obtain rfl : us = [] := qaL (by omega)
  refine zah ?_
  refine za rfl (wN rfl wC jZ) ?_
  refine qc rfl (q0 rfl kv (ev1 rfl) (ev1 rfl) rfl (qw _) (ya _) ((qw _).trans (qw _).symm)) ?_
  refine zab ?_
  refine qe ?_
  refine kc [0, 1, 2] (rs1 rfl (vf kv rfl rfl (qw _))) rfl rfl ?_ ⟨rfl, rfl, rfl, trivial⟩
  rfl
 ·try simp only [decide_eq_true_eq, decide_eq_false_iff_not, beq_iff_eq, bne_iff_ne, beq_eq_false_iff_ne, bne_eq_false_iff_eq, qau, qay, qan, qaA, qar, ne_eq, Decidable.not_not, qaO, qaP] at c1
  refine qd ?_
  refine zah ?_
  refine za rfl (qb rfl Hg (ev1 rfl) rfl rfl) ?_
  refine za rfl (qt rfl (ev1 rfl) (fun s v h => by cases h; exact ⟨_, rfl⟩)) ?_
  refine za rfl (qa rfl gY (ev1 rfl)) ?_
  refine za rfl (qb rfl xw (ev1 rfl) rfl rfl) ?_
  refine zaa 1 rfl ?_
  refine za rfl (jy rfl (ev1 rfl) (ev1 rfl) (fun _ => qat _ (by omega))) ?_
  refine za rfl (XH (j := us.length - 1) rfl wU (ev1 rfl) (ev1 rfl) rfl (fun _ => by first | rfl | omega) (fun _ => by omega)) ?_
  refine za rfl (XI rfl kv (ev1 rfl) rfl (qw) (by omega)) ?_
  refine qc rfl (q0 rfl kv (ev1 rfl) (ev1 rfl) rfl (qw _) (ya _) ((qw _).trans (qw _).symm)) ?_
  refine zab ?_
  refine qe ?_
  refine kc [0, 1, 2] (rs1 rfl (vf kv rfl rfl (qw _))) rfl rfl ?_ ⟨rfl, rfl, rfl, trivial⟩
  rw [KO (by omega)]
theorem Zk (a b : Int) (old : List TL) (k : Nat) (hk : k ≤ old.length) (hl : old.length ≤ 5000) : DFun Try.prog 75 [.val (.int .i64 (k : Int)), .loc 0 0] [.mix 119 [.loc 1 0], .mix 50 [.val (.int .i64 a), .val (.int .i64 b), .slf 256 old.length (old.flatMap tc)]] (.val (.agg (tc (ka (old.take k))).toArray)) [.mix 119 [.loc 1 0], .mix 50 [.val (.int .i64 a), .val (.int .i64 b), .slf 256 old.length (old.flatMap tc)]] := by
 refine zan (N := 15) 2 (by kernel_rfl) Try.func75 rfl rfl rfl (by simp only [fr0, qal, qam]; exact rfl) rfl fun s0 hs0 => ?_
 refine zag ?_
 refine zam 1 ?_
 refine zac ?_
 refine zaj rfl (zao 2 rfl jZ rfl) ?_
 refine zab ?_
 refine zag ?_
 refine zah ?_
 refine zaa 1 rfl ?_
 refine za rfl (qB rfl (ev1 rfl) (ev1 rfl)) ?_
 refine zab ?_
 refine qv rfl (fun c1 => ?_) (fun c1 => ?_)
 ·try simp only [decide_eq_true_eq, decide_eq_false_iff_not, beq_iff_eq, bne_iff_ne, beq_eq_false_iff_ne, bne_eq_false_iff_eq, qau, qay, qan, qaA, qar, ne_eq, Decidable.not_not, qaO, qaP] at c1
  obtain rfl : k = 0 := by omega
  refine zah ?_
  refine za rfl (wN rfl wC jZ) ?_
  refine qc rfl (q0 rfl kv (ev1 rfl) (ev1 rfl) rfl (qw _) (ya _) ((qw _).trans (qw _).symm)) ?_
  refine zab ?_
  refine qe ?_
  refine kc [0, 1] (rs1 rfl (vf kv rfl rfl (qw _))) rfl rfl ?_ ⟨rfl, rfl, trivial⟩
  rfl
 ·try simp only [decide_eq_true_eq, decide_eq_false_iff_not, beq_iff_eq, bne_iff_ne, beq_eq_false_iff_ne, bne_eq_false_iff_eq, qau, qay, qan, qaA, qar, ne_eq, Decidable.not_not, qaO, qaP] at c1
  refine qd ?_
  refine zah ?_
  refine za rfl (qb rfl Hg (ev1 rfl) rfl rfl) ?_
  refine za rfl (qt rfl (ev1 rfl) (fun s v h => by cases h; exact ⟨_, rfl⟩)) ?_
  refine za rfl (qa rfl gY (ev1 rfl)) ?_
  refine za rfl (qb rfl xw (ev1 rfl) rfl rfl) ?_
  refine zaa 1 rfl ?_
  refine za rfl (jy rfl (ev1 rfl) (ev1 rfl) (fun _ => qat _ (by omega))) ?_
  refine za rfl (qS (j := k - 1) rfl wU (ev1 rfl) (ev1 rfl) qw (by decide) (by omega) (by omega)) ?_
  refine za rfl (xF rfl kv (ev1 rfl) (qw _)) ?_
  refine qc rfl (q0 rfl kv (ev1 rfl) (ev1 rfl) rfl (qw _) (ya _) ((qw _).trans (qw _).symm)) ?_
  refine zab ?_
  refine qe ?_
  refine kc [0, 1] (rs1 rfl (vf kv rfl rfl (qw _))) rfl rfl ?_ ⟨rfl, rfl, trivial⟩
  rw [VQ (by omega) hk]
theorem Zl (a b : Int) (old : List TL)  : DFun Try.prog 56 [.loc 0 0] [.mix 50 [.val (.int .i64 a), .val (.int .i64 b), .slf 256 old.length (old.flatMap tc)]] (.fn (.func 75) [] [.loc 1 0]) [.mix 50 [.val (.int .i64 a), .val (.int .i64 b), .slf 256 old.length (old.flatMap tc)], .mix 119 [.loc 0 0]] := by
 refine zan (N := 4) 1 (by kernel_rfl) Try.func56 rfl rfl rfl (by simp only [fr0, qal, qam]; exact rfl) rfl fun s0 hs0 => ?_
 refine zag ?_
 refine zam 1 ?_
 refine zac ?_
 refine zaj rfl (jV 1 rfl (ev1 rfl) (fun s v h => by cases h <;> rfl) rfl) ?_
 refine zaa 1 rfl ?_
 refine zab ?_
 refine zah ?_
 refine za rfl (qX rfl en (ec (ev1 rfl) en)) ?_
 refine zaa 1 rfl ?_
 refine zab ?_
 refine qe ?_
 refine kc [0, 1] (rs1 rfl (qO rfl)) rfl rfl ?_ ⟨rfl, rfl, trivial⟩
 rfl
end Go.Proofs.Ytofklkbfkoliiaa
namespace Go.Proofs.Ytofklkbfkoliiaa
set_option linter.unusedVariables false
set_option linter.unusedSimpArgs false
open Go.RowKit
attribute [local irreducible] k8 rdP rdN gT
theorem GG (B : List Int) (hB : B.length ≤ 4000000000000000000) (hi : isB B) (w h : Int) (p : Nat) : DFun Try.prog 56 [.loc 0 0] [.mix 129 [.val (.int .i64 w), .val (.int .i64 h), .val (.slice none 0 0), .slf 1 (B).length ((B).flatMap uc8), .val (.int .i64 ((p : Int) : Int))]] (.fn (.func 75) [] [.loc 1 0]) [.mix 129 [.val (.int .i64 w), .val (.int .i64 h), .val (.slice none 0 0), .slf 1 (B).length ((B).flatMap uc8), .val (.int .i64 ((p : Int) : Int))], .mix 119 [.loc 0 0]] := by
 refine zan (N := 4) 1 (by kernel_rfl) Try.func56 rfl rfl rfl (by simp only [fr0, qal, qam]; exact rfl) rfl fun s0 hs0 => ?_
 refine zag ?_
 refine zam 1 ?_
 refine zac ?_
 refine zaj rfl (jV 1 rfl (ev1 rfl) (fun s v h => by cases h <;> rfl) rfl) ?_
 refine zaa 1 rfl ?_
 refine zab ?_
 refine zah ?_
 refine za rfl (qX rfl en (ec (ev1 rfl) en)) ?_
 refine zaa 1 rfl ?_
 refine zab ?_
 refine qe ?_
 refine kc [0, 1] (rs1 rfl (qO rfl)) rfl rfl ?_ ⟨rfl, rfl, trivial⟩
 rfl
theorem Zm (B : List Int) (hB : B.length ≤ 4000000000000000000) (hi : isB B) (w h : Int) (n : Nat) (hm : gB w h = true) (hn : w * h = (n : Int)) (p0 : Nat) (hp0 : p0 ≤ B.length) (ts : List TL) (q : Nat) (h0 : jX ka B n [] p0 = some (ts, q)) : DFun Try.prog 65 [.loc 0 0, .fn (.func 75) [] [.loc 1 0]] [.mix 129 [.val (.int .i64 w), .val (.int .i64 h), .val (.slice none 0 0), .slf 1 (B).length ((B).flatMap uc8), .val (.int .i64 ((p0 : Nat) : Int))], .mix 119 [.loc 0 0]] (.tup []) [.mix 129 [.val (.int .i64 w), .val (.int .i64 h), .arr 2, .slf 1 (B).length ((B).flatMap uc8), .val (.int .i64 ((q : Nat) : Int))], .mix 119 [.loc 0 0], .arr 132 256 (ts).length ((ts).flatMap tc)] := by
 have hb := vW hm
 refine zan (N := 28) 2 (by kernel_rfl) Try.func65 rfl rfl rfl (by simp only [fr0, qal, qam]; exact rfl) rfl fun s0 hs0 => ?_
 refine zah ?_
 refine zaa 1 rfl ?_
 refine za rfl (qX rfl (ec (ev1 rfl) en) en) ?_
 refine zaa 1 rfl ?_
 refine zab ?_
 refine zag ?_
 refine vj (l' := [.val (.int .i64 w), .val (.int .i64 h), .arr 2, .slf 1 (B).length ((B).flatMap uc8), .val (.int .i64 (p0 : Int))]) 0 2 132 256 rfl rfl rfl rfl (by simp only [qas, qaw, zad, zaf]; exact rfl) ?_
 refine kQ 2 Jj rfl rfl (by simp only [qas, qaw, zad, zaf, qaI, qa4, qal, qam]; exact rfl) ?_
 refine qk [([], []), ([], []), ([], []), ([], []), ([0], []), ([], []), ([], []), ([], []), ([], []), ([0], []), ([], []), ([], [])] qW (by kernel_rfl) ?_
 refine zae rfl rfl (zal (.inl rfl) (ev1 rfl)) ?_
 refine zae rfl rfl (qt rfl (ev1 rfl) (fun s v h => by cases h; exact ⟨_, rfl⟩)) ?_
 refine zae rfl rfl (qa rfl k7 (ev1 rfl)) ?_
 refine zae rfl rfl (qa rfl yM (ev1 rfl)) ?_
 refine zae rfl rfl (qb rfl tb3 (ev1 rfl) rfl rfl) ?_
 refine zae rfl rfl (zal (.inl rfl) (ev1 rfl)) ?_
 refine zae rfl rfl (qt rfl (ev1 rfl) (fun s v h => by cases h; exact ⟨_, rfl⟩)) ?_
 refine zae rfl rfl (qa rfl k7 (ev1 rfl)) ?_
 refine zae rfl rfl (qa rfl yN (ev1 rfl)) ?_
 refine zae rfl rfl (qb rfl tb3 (ev1 rfl) rfl rfl) ?_
 refine zae rfl rfl (yc rfl (ev1 rfl) (ev1 rfl) (fun _ => qat _ (by omega))) ?_
 refine zae rfl rfl (zal (.inl rfl) (ev1 rfl)) ?_
 refine qu ?_
 refine qf ?_
 refine qY ⟨hs0, rfl⟩ (α := List TL × Nat) (fun x => [(19, .val (.int .i64 (x.1.length : Int)))]) [(1, _), (4, _), (18, _)] (fun x => [(0, .mix 129 [.val (.int .i64 w), .val (.int .i64 h), .arr 2, .slf 1 (B).length ((B).flatMap uc8), .val (.int .i64 ((x.2 : Nat) : Int))]), (2, .arr 132 256 (x.1).length ((x.1).flatMap tc))]) [.hole, _, .hole] (fun x => x.1.length ≤ n ∧ x.2 ≤ B.length ∧ jX ka B (n - x.1.length) x.1 x.2 = some (ts, q)) (fun x => n - x.1.length) ([], p0) [0, 1, 2] (⟨qaZ _, hp0, h0⟩) rfl ⟨rfl, rfl, rfl, trivial⟩ ⟨rfl, trivial⟩ ⟨rfl, rfl, rfl, trivial⟩ ?_
 intro x hx
 simp only [upd, zad, zaf, qas, qaw]
 obtain ⟨us, p⟩ := x
 obtain ⟨hul, hp, hrd⟩ := hx
 dsimp only at hul hp hrd ⊢
 refine zah ?_
 refine za rfl (qI rfl (ev1 rfl) (ev1 rfl)) ?_
 refine zab ?_
 refine zag ?_
 refine qv rfl (fun c1 => ?_) (fun c1 => ?_)
 ·try simp only [decide_eq_true_eq, decide_eq_false_iff_not, beq_iff_eq, bne_iff_ne, beq_eq_false_iff_ne, bne_eq_false_iff_eq, qau, qay, qan, qaA, qar, ne_eq, Decidable.not_not, qaO, qaP] at c1
  have hlt : us.length < n := by omega
  refine qd ?_
  refine zag ?_
  refine qf ?_
  refine zah ?_
  refine zaa 2 rfl ?_
  refine zab ?_
  by_cases hz : zrB B p = true
  ·refine zam 1 ?_
   refine zac ?_
   refine zaa 3 rfl ?_
   refine zaj rfl (zai [0, 2, 1] [] [] rfl (ev1 rfl) (ec (ev1 rfl) en) rfl rfl (uH B hB w h us (by omega) p) rfl rfl rfl rfl rfl rfl) ?_
   refine zaj rfl (zai [0, 2] [] [3] rfl (ev1 rfl) (ec (ev1 rfl) en) rfl rfl (Uy B hB w h us (by omega) hi (ka us) p hp (zrB_iff.1 hz)) rfl rfl rfl rfl rfl rfl) ?_
   refine zab ?_
   refine zac ?_
   refine za rfl (qx rfl (ev1 rfl) (ev1 rfl) (fun _ => qat _ (by omega))) ?_
   refine zaa 1 rfl ?_
   refine zab ?_
   refine ⟨(us ++ [ka us], p + 1), [0, 1, 3], ⟨by rw [qap]; exact hlt, (zrB_iff.1 hz).1, by rw [qap]; exact YE (n := n - us.length) (by omega) hz hrd⟩, by simp only [qap, qaI, qa4]; omega, rfl, ⟨by rw [qap]; rfl, rfl, rfl, rfl, trivial⟩, ⟨rfl, rfl, rfl, trivial⟩⟩
  ·obtain ⟨l, q1, hl0, hne⟩ := KN (n := n - us.length) (by omega) hz hrd
   refine zam 1 ?_
   refine zac ?_
   refine zaa 3 rfl ?_
   refine zaj rfl (zai [0, 2, 1] [] [] rfl (ev1 rfl) (ec (ev1 rfl) en) rfl rfl (uH B hB w h us (by omega) p) rfl rfl rfl rfl rfl rfl) ?_
   refine zaj rfl (zai [0, 2] [] [3] rfl (ev1 rfl) (ec (ev1 rfl) en) rfl rfl (Uz B hB w h us (by omega) hi (ka us) p hp (fun e => hz (zrB_iff.2 e)) l q1 hl0 hne) rfl rfl rfl rfl rfl rfl) ?_
   refine zab ?_
   refine zac ?_
   refine za rfl (qx rfl (ev1 rfl) (ev1 rfl) (fun _ => qat _ (by omega))) ?_
   refine zaa 1 rfl ?_
   refine zab ?_
   refine ⟨(us ++ [k8 l], q1), [0, 1, 3], ⟨by rw [qap]; exact hlt, (Jr hl0).1, by rw [qap]; exact YF (n := n - us.length) (by omega) hz hl0 hne hrd⟩, by simp only [qap, qaI, qa4]; omega, rfl, ⟨by rw [qap]; rfl, rfl, rfl, rfl, trivial⟩, ⟨rfl, rfl, rfl, trivial⟩⟩
 ·try simp only [decide_eq_true_eq, decide_eq_false_iff_not, beq_iff_eq, bne_iff_ne, beq_eq_false_iff_ne, bne_eq_false_iff_eq, qau, qay, qan, qaA, qar, ne_eq, Decidable.not_not, qaO, qaP] at c1
  refine qQ ?_
  have e0 : n - us.length = 0 := by omega
  rw [e0] at hrd
  have hrd2 : some (us, p) = some (ts, q) := hrd
  cases hrd2
  refine kc [0, 1, 2] (qD rfl) rfl rfl ?_ ⟨rfl, rfl, rfl, trivial⟩
  rfl
theorem UA (B : List Int) (hB : B.length ≤ 4000000000000000000) (hi : isB B) (w h : Int) (n : Nat) (hm : gB w h = true) (hn : w * h = (n : Int)) (p0 : Nat) (hp0 : p0 ≤ B.length) (h0 : jX ka B n [] p0 = none) : DPanL Try.prog 65 [.loc 0 0, .fn (.func 75) [] [.loc 1 0]] [.mix 129 [.val (.int .i64 w), .val (.int .i64 h), .val (.slice none 0 0), .slf 1 (B).length ((B).flatMap uc8), .val (.int .i64 ((p0 : Nat) : Int))], .mix 119 [.loc 0 0]] (.ifc 153 (.val (.agg #[]))) := by
 have hb := vW hm
 refine zan (N := 28) 2 (by kernel_rfl) Try.func65 rfl rfl rfl (by simp only [fr0, qal, qam]; exact rfl) rfl fun s0 hs0 => ?_
 refine zah ?_
 refine zaa 1 rfl ?_
 refine za rfl (qX rfl (ec (ev1 rfl) en) en) ?_
 refine zaa 1 rfl ?_
 refine zab ?_
 refine zag ?_
 refine vj (l' := [.val (.int .i64 w), .val (.int .i64 h), .arr 2, .slf 1 (B).length ((B).flatMap uc8), .val (.int .i64 (p0 : Int))]) 0 2 132 256 rfl rfl rfl rfl (by simp only [qas, qaw, zad, zaf]; exact rfl) ?_
 refine kQ 2 Jj rfl rfl (by simp only [qas, qaw, zad, zaf, qaI, qa4, qal, qam]; exact rfl) ?_
 refine qk [([], []), ([], []), ([], []), ([], []), ([0], []), ([], []), ([], []), ([], []), ([], []), ([0], []), ([], []), ([], [])] qW (by kernel_rfl) ?_
 refine zae rfl rfl (zal (.inl rfl) (ev1 rfl)) ?_
 refine zae rfl rfl (qt rfl (ev1 rfl) (fun s v h => by cases h; exact ⟨_, rfl⟩)) ?_
 refine zae rfl rfl (qa rfl k7 (ev1 rfl)) ?_
 refine zae rfl rfl (qa rfl yM (ev1 rfl)) ?_
 refine zae rfl rfl (qb rfl tb3 (ev1 rfl) rfl rfl) ?_
 refine zae rfl rfl (zal (.inl rfl) (ev1 rfl)) ?_
 refine zae rfl rfl (qt rfl (ev1 rfl) (fun s v h => by cases h; exact ⟨_, rfl⟩)) ?_
 refine zae rfl rfl (qa rfl k7 (ev1 rfl)) ?_
 refine zae rfl rfl (qa rfl yN (ev1 rfl)) ?_
 refine zae rfl rfl (qb rfl tb3 (ev1 rfl) rfl rfl) ?_
 refine zae rfl rfl (yc rfl (ev1 rfl) (ev1 rfl) (fun _ => qat _ (by omega))) ?_
 refine zae rfl rfl (zal (.inl rfl) (ev1 rfl)) ?_
 refine qu ?_
 refine qf ?_
 refine qY ⟨hs0, rfl⟩ (α := List TL × Nat) (fun x => [(19, .val (.int .i64 (x.1.length : Int)))]) [(1, _), (4, _), (18, _)] (fun x => [(0, .mix 129 [.val (.int .i64 w), .val (.int .i64 h), .arr 2, .slf 1 (B).length ((B).flatMap uc8), .val (.int .i64 ((x.2 : Nat) : Int))]), (2, .arr 132 256 (x.1).length ((x.1).flatMap tc))]) [.hole, _, .hole] (fun x => x.1.length ≤ n ∧ x.2 ≤ B.length ∧ jX ka B (n - x.1.length) x.1 x.2 = none) (fun x => n - x.1.length) ([], p0) [0, 1, 2] (⟨qaZ _, hp0, h0⟩) rfl ⟨rfl, rfl, rfl, trivial⟩ ⟨rfl, trivial⟩ ⟨rfl, rfl, rfl, trivial⟩ ?_
 intro x hx
 simp only [upd, zad, zaf, qas, qaw]
 obtain ⟨us, p⟩ := x
 obtain ⟨hul, hp, hrd⟩ := hx
 dsimp only at hul hp hrd ⊢
 refine zah ?_
 refine za rfl (qI rfl (ev1 rfl) (ev1 rfl)) ?_
 refine zab ?_
 refine zag ?_
 refine qv rfl (fun c1 => ?_) (fun c1 => ?_)
 ·try simp only [decide_eq_true_eq, decide_eq_false_iff_not, beq_iff_eq, bne_iff_ne, beq_eq_false_iff_ne, bne_eq_false_iff_eq, qau, qay, qan, qaA, qar, ne_eq, Decidable.not_not, qaO, qaP] at c1
  have hlt : us.length < n := by omega
  refine qd ?_
  refine zag ?_
  refine qf ?_
  refine zah ?_
  refine zaa 2 rfl ?_
  refine zab ?_
  by_cases hz : zrB B p = true
  ·refine zam 1 ?_
   refine zac ?_
   refine zaa 3 rfl ?_
   refine zaj rfl (zai [0, 2, 1] [] [] rfl (ev1 rfl) (ec (ev1 rfl) en) rfl rfl (uH B hB w h us (by omega) p) rfl rfl rfl rfl rfl rfl) ?_
   refine zaj rfl (zai [0, 2] [] [3] rfl (ev1 rfl) (ec (ev1 rfl) en) rfl rfl (Uy B hB w h us (by omega) hi (ka us) p hp (zrB_iff.1 hz)) rfl rfl rfl rfl rfl rfl) ?_
   refine zab ?_
   refine zac ?_
   refine za rfl (qx rfl (ev1 rfl) (ev1 rfl) (fun _ => qat _ (by omega))) ?_
   refine zaa 1 rfl ?_
   refine zab ?_
   refine ⟨(us ++ [ka us], p + 1), [0, 1, 3], ⟨by rw [qap]; exact hlt, (zrB_iff.1 hz).1, by rw [qap]; exact YE (n := n - us.length) (by omega) hz hrd⟩, by simp only [qap, qaI, qa4]; omega, rfl, ⟨by rw [qap]; rfl, rfl, rfl, rfl, trivial⟩, ⟨rfl, rfl, rfl, trivial⟩⟩
  ·by_cases hno : ∀ l q, rdN B p = some (l, q) → k8 l = ka us
   ·refine zac ?_
    refine zaa 3 rfl ?_
    refine zaj rfl (zai [0, 2, 1] [] [] rfl (ev1 rfl) (ec (ev1 rfl) en) rfl rfl (uH B hB w h us (by omega) p) rfl rfl rfl rfl rfl rfl) ?_
    refine ke rfl (qA [0, 2] [] [] rfl (ev1 rfl) (ec (ev1 rfl) en) rfl rfl ((Az B hB w h us (by omega) hi (ka us) p hp (fun e => hz (zrB_iff.2 e)) hno).dead) rfl rfl rfl rfl rfl rfl) rfl ?_
    refine yW (Mo := [_, _]) [0, 1] rfl rfl ?_ ⟨rfl, rfl, trivial⟩ rfl
    rfl
   ·obtain ⟨l, q1, hl0, hne⟩ : ∃ l q, rdN B p = some (l, q) ∧ k8 l ≠ ka us := by simpa using hno
    refine zam 1 ?_
    refine zac ?_
    refine zaa 3 rfl ?_
    refine zaj rfl (zai [0, 2, 1] [] [] rfl (ev1 rfl) (ec (ev1 rfl) en) rfl rfl (uH B hB w h us (by omega) p) rfl rfl rfl rfl rfl rfl) ?_
    refine zaj rfl (zai [0, 2] [] [3] rfl (ev1 rfl) (ec (ev1 rfl) en) rfl rfl (Uz B hB w h us (by omega) hi (ka us) p hp (fun e => hz (zrB_iff.2 e)) l q1 hl0 hne) rfl rfl rfl rfl rfl rfl) ?_
    refine zab ?_
    refine zac ?_
    refine za rfl (qx rfl (ev1 rfl) (ev1 rfl) (fun _ => qat _ (by omega))) ?_
    refine zaa 1 rfl ?_
    refine zab ?_
    refine ⟨(us ++ [k8 l], q1), [0, 1, 3], ⟨by rw [qap]; exact hlt, (Jr hl0).1, by rw [qap]; exact YF (n := n - us.length) (by omega) hz hl0 hne hrd⟩, by simp only [qap, qaI, qa4]; omega, rfl, ⟨by rw [qap]; rfl, rfl, rfl, rfl, trivial⟩, ⟨rfl, rfl, rfl, trivial⟩⟩
 ·have c2 : ¬ ((us.length : Int) < w * h) := by simpa using c1
  have e0 : n - us.length = 0 := by omega
  rw [e0] at hrd
  exact absurd (show some (us, p) = none from hrd) (fun e => by cases e)
end Go.Proofs.Ytofklkbfkoliiaa
namespace Go.Proofs.Ytofklkbfkoliiaa
set_option linter.unusedVariables false
set_option linter.unusedSimpArgs false
open Go.RowKit
attribute [local irreducible] k8 rdP rdN gT jX
theorem UB (w h : Int) (us : List TL) (n e : Int) : DDef Try.prog 62 [.loc 0 0, .loc 1 0, .loc 2 0] [.mix 50 [.val (.int .i64 w), .val (.int .i64 h), .arr 3], .flat 3 [.int .i64 n], .flat 27 [.int .i64 e], .arr 132 256 (us).length ((us).flatMap tc)] none none [.mix 50 [.val (.int .i64 w), .val (.int .i64 h), .arr 3], .flat 3 [.int .i64 n], .flat 27 [.int .i64 e], .arr 132 256 (us).length ((us).flatMap tc)] := by
 refine uq (dr := .tup []) (t := 3) (N := 6) 4 (by kernel_rfl) Try.func62 rfl rfl rfl (by simp only [fr0, qal, qam]; exact rfl) rfl rfl rfl rfl rfl fun s0 hs0 => ?_
 refine za rfl (zai [] [] [] rfl (ev1 rfl) (ec (ev1 rfl) en) rfl rfl (VN) rfl rfl rfl rfl rfl rfl) ?_
 refine zab ?_
 refine qj rfl (rfl) ?_
 refine qd ?_
 refine kc [0, 1, 2, 3] (qD rfl) rfl rfl ?_ ⟨rfl, rfl, rfl, rfl, trivial⟩
 rfl
theorem wV (n e : Int) : DDef Try.prog 62 [.loc 0 0, .loc 1 0, .loc 2 0] [.flat 50 [.int .i64 0, .int .i64 0, .slice none 0 0], .flat 3 [.int .i64 n], .flat 27 [.int .i64 e]] (some (.ifc 153 (.val (.agg #[])))) none [.flat 50 [.int .i64 0, .int .i64 0, .slice none 0 0], .flat 3 [.int .i64 0], .flat 27 [.int .i64 200]] := by
 refine uq (dr := .tup []) (t := 3) (N := 6) 3 (by kernel_rfl) Try.func62 rfl rfl rfl (by simp only [fr0, qal, qam]; exact rfl) rfl rfl rfl rfl rfl fun s0 hs0 => ?_
 refine za rfl (zai [] [] [] rfl (ev1 rfl) (ec (ev1 rfl) en) rfl rfl (Uu) rfl rfl rfl rfl rfl rfl) ?_
 refine zab ?_
 refine qR rfl (rfl) ?_
 refine zac ?_
 refine za rfl (jG rfl fl50 Vx) ?_
 refine qc rfl (q0 rfl vA (ev1 rfl) (ev1 rfl) rfl rfl rfl rfl) ?_
 refine qc rfl (qG rfl tb3 (ev1 rfl) (ev1 rfl) rfl) ?_
 refine qc rfl (qG rfl qU (ev1 rfl) (ev1 rfl) rfl) ?_
 refine zab ?_
 refine kc [0, 1, 2] (qD rfl) rfl rfl ?_ ⟨rfl, rfl, rfl, trivial⟩
 rfl
theorem rdc_y (B : List Int) (hB : B.length ≤ 4000000000000000000) (hi : isB B) (n : Nat) (h2 : 0 + 2 ≤ B.length) (hm : gB (bAt B 0) (bAt B 1) = true) (hn : bAt B 0 * bAt B 1 = (n : Int)) (ts : List TL) (q : Nat) (h0 : jX ka B n [] 2 = some (ts, q)) : DFun Try.prog 38 [.slf 1 (B).length ((B).flatMap uc8)] [] (.tup [.agg [.val (.int .i64 (bAt B 0)), .val (.int .i64 (bAt B 1)), .arr 0], .val (.int .i64 (q : Nat)), .val (.int .i64 0)]) [.arr 132 256 (ts).length ((ts).flatMap tc)] := by
 refine qn (N := 17) 0 (by kernel_rfl) Try.func38 rfl rfl rfl (by simp only [fr0, qal, qam]; exact rfl) rfl fun s0 hs0 => ?_
 refine qF rfl hs0 ?_
 refine zam 3 ?_
 refine zac ?_
 refine zaj rfl (zao 0 rfl Vx rfl) ?_
 refine zaj rfl (zao 1 rfl zr3 rfl) ?_
 refine zaj rfl (zao 2 rfl j4 rfl) ?_
 refine zab ?_
 refine qr (l0 := [_]) rfl rfl rfl rfl rfl hs0 ?_
 refine za rfl (qX rfl en (ec (ev1 rfl) (ec (ev1 rfl) (ec (ev1 rfl) en)))) ?_
 refine zab ⟨_, _, _, 3, ev1 rfl, qaF hs0 (by decide), rfl, ?_⟩
 have hs1 : s0.M.length ≤ 3 := qaF hs0 (by decide)
 refine qE rfl hs0 ?_
 refine zag ?_
 refine zam 1 ?_
 refine zac ?_
 refine zaa 1 rfl ?_
 refine za rfl (jW (ps := [(1, .tmp 7)]) rfl Qy xn (ec (ev1 rfl) en) rfl rfl rfl) ?_
 refine zaj rfl (zao 3 rfl xn rfl) ?_
 refine qc rfl (kL rfl QD (ev1 rfl) (ev1 rfl) rfl rfl rfl rfl) ?_
 refine zab ?_
 refine zah ?_
 refine zaj rfl (zai [3] [] [] rfl (ev1 rfl) (ec (ev1 rfl) en) rfl rfl (GF B hB hi n h2 hm hn) rfl rfl rfl rfl rfl rfl) ?_
 refine zab ?_
 refine zag ?_
 refine zam 2 ?_
 refine zac ?_
 refine za rfl (qa rfl k7 (ev1 rfl)) ?_
 refine zaj rfl (zai [3] [] [4] rfl (ev1 rfl) (ec (ev1 rfl) en) rfl rfl (GG B hB hi (bAt B 0) (bAt B 1) 2) rfl rfl rfl rfl rfl rfl) ?_
 refine zaj rfl (zai [3, 4] [] [5] rfl (ev1 rfl) (ec (ev1 rfl) (ec (ev1 rfl) en)) rfl rfl (Zm B hB hi (bAt B 0) (bAt B 1) n hm hn 2 h2 ts q h0) rfl rfl rfl rfl rfl rfl) ?_
 refine zab ?_
 refine zag ?_
 refine qk [([], []), ([3], []), ([], []), ([3], []), ([0], [0]), ([1], [1]), ([2], [2])] qW (by kernel_rfl) ?_
 refine zae rfl rfl (qa rfl k7 (ev1 rfl)) ?_
 refine zae rfl rfl (uz rfl vA (ev1 rfl) rfl rfl rfl) ?_
 refine zae rfl rfl (qa rfl kR (ev1 rfl)) ?_
 refine zae rfl rfl (qb rfl tb3 (ev1 rfl) rfl rfl) ?_
 refine jY rfl rfl (kL rfl vA (ev1 rfl) (ev1 rfl) rfl rfl rfl rfl) rfl (by simp only [upd, zad, zaf]; exact rfl) ?_
 refine jY rfl rfl (qG rfl tb3 (ev1 rfl) (ev1 rfl) rfl) rfl (by simp only [upd, zad, zaf]; exact rfl) ?_
 refine jY rfl rfl (qG rfl qU (ev1 rfl) (ev1 rfl) rfl) rfl (by simp only [upd, zad, zaf]; exact rfl) ?_
 refine qu ?_
 refine qe ?_
 refine jO (kH [0, 1, 2, 5] [] rfl rfl (UB _ _ _ _ _) rfl rfl rfl rfl rfl) ?_
 refine kc [5] (rs3 rfl (wB vA rfl rfl rfl) (jB tb3 rfl rfl rfl) (jB qU rfl rfl rfl)) rfl rfl ?_ ⟨rfl, trivial⟩
 rfl
theorem AA (B : List Int) (hB : B.length ≤ 4000000000000000000) (hi : isB B) (n : Nat) (h2 : 0 + 2 ≤ B.length) (hm : gB (bAt B 0) (bAt B 1) = true) (hn : bAt B 0 * bAt B 1 = (n : Int)) (h0 : jX ka B n [] 2 = none) : DFun Try.prog 38 [.slf 1 (B).length ((B).flatMap uc8)] [] (.tup [.val (.agg #[.int .i64 0, .int .i64 0, .slice none 0 0]), .val (.int .i64 0), .val (.int .i64 200)]) [] := by
 refine qn (N := 17) 0 (by kernel_rfl) Try.func38 rfl rfl rfl (by simp only [fr0, qal, qam]; exact rfl) rfl fun s0 hs0 => ?_
 refine qF rfl hs0 ?_
 refine zam 3 ?_
 refine zac ?_
 refine zaj rfl (zao 0 rfl Vx rfl) ?_
 refine zaj rfl (zao 1 rfl zr3 rfl) ?_
 refine zaj rfl (zao 2 rfl j4 rfl) ?_
 refine zab ?_
 refine qr (l0 := [_]) rfl rfl rfl rfl rfl hs0 ?_
 refine za rfl (qX rfl en (ec (ev1 rfl) (ec (ev1 rfl) (ec (ev1 rfl) en)))) ?_
 refine zab ⟨_, _, _, 3, ev1 rfl, qaF hs0 (by decide), rfl, ?_⟩
 have hs1 : s0.M.length ≤ 3 := qaF hs0 (by decide)
 refine qE rfl hs0 ?_
 refine zag ?_
 refine zam 1 ?_
 refine zac ?_
 refine zaa 1 rfl ?_
 refine za rfl (jW (ps := [(1, .tmp 7)]) rfl Qy xn (ec (ev1 rfl) en) rfl rfl rfl) ?_
 refine zaj rfl (zao 3 rfl xn rfl) ?_
 refine qc rfl (kL rfl QD (ev1 rfl) (ev1 rfl) rfl rfl rfl rfl) ?_
 refine zab ?_
 refine zah ?_
 refine zaj rfl (zai [3] [] [] rfl (ev1 rfl) (ec (ev1 rfl) en) rfl rfl (GF B hB hi n h2 hm hn) rfl rfl rfl rfl rfl rfl) ?_
 refine zab ?_
 refine zag ?_
 refine zam 1 ?_
 refine zac ?_
 refine za rfl (qa rfl k7 (ev1 rfl)) ?_
 refine zaj rfl (zai [3] [] [4] rfl (ev1 rfl) (ec (ev1 rfl) en) rfl rfl (GG B hB hi (bAt B 0) (bAt B 1) 2) rfl rfl rfl rfl rfl rfl) ?_
 refine ke rfl (qA [3, 4] [] [] rfl (ev1 rfl) (ec (ev1 rfl) (ec (ev1 rfl) en)) rfl rfl ((UA B hB hi (bAt B 0) (bAt B 1) n hm hn 2 h2 h0).dead) rfl rfl rfl rfl rfl rfl) rfl ?_
 refine jO (qP [0, 1, 2] [] rfl rfl rfl (wV _ _) rfl rfl rfl rfl rfl) ?_
 refine qH (rs3 rfl (vf vA rfl rfl rfl) (jB tb3 rfl rfl rfl) (jB qU rfl rfl rfl)) rfl ?_
 rfl
theorem AB (B : List Int) (hB : B.length ≤ 4000000000000000000) (hi : isB B) (h2 : ¬ 0 + 2 ≤ B.length) : DFun Try.prog 38 [.slf 1 (B).length ((B).flatMap uc8)] [] (.tup [.val (.agg #[.int .i64 0, .int .i64 0, .slice none 0 0]), .val (.int .i64 0), .val (.int .i64 200)]) [] := by
 refine qn (N := 17) 0 (by kernel_rfl) Try.func38 rfl rfl rfl (by simp only [fr0, qal, qam]; exact rfl) rfl fun s0 hs0 => ?_
 refine qF rfl hs0 ?_
 refine zam 3 ?_
 refine zac ?_
 refine zaj rfl (zao 0 rfl Vx rfl) ?_
 refine zaj rfl (zao 1 rfl zr3 rfl) ?_
 refine zaj rfl (zao 2 rfl j4 rfl) ?_
 refine zab ?_
 refine qr (l0 := [_]) rfl rfl rfl rfl rfl hs0 ?_
 refine za rfl (qX rfl en (ec (ev1 rfl) (ec (ev1 rfl) (ec (ev1 rfl) en)))) ?_
 refine zab ⟨_, _, _, 3, ev1 rfl, qaF hs0 (by decide), rfl, ?_⟩
 have hs1 : s0.M.length ≤ 3 := qaF hs0 (by decide)
 refine qE rfl hs0 ?_
 refine zag ?_
 refine zam 1 ?_
 refine zac ?_
 refine zaa 1 rfl ?_
 refine za rfl (jW (ps := [(1, .tmp 7)]) rfl Qy xn (ec (ev1 rfl) en) rfl rfl rfl) ?_
 refine zaj rfl (zao 3 rfl xn rfl) ?_
 refine qc rfl (kL rfl QD (ev1 rfl) (ev1 rfl) rfl rfl rfl rfl) ?_
 refine zab ?_
 refine zah ?_
 refine ke rfl (qA [3] [] [] rfl (ev1 rfl) (ec (ev1 rfl) en) rfl rfl ((Uv B hB hi h2).dead) rfl rfl rfl rfl rfl rfl) rfl ?_
 refine jO (qP [0, 1, 2] [] rfl rfl rfl (wV _ _) rfl rfl rfl rfl rfl) ?_
 refine qH (rs3 rfl (vf vA rfl rfl rfl) (jB tb3 rfl rfl rfl) (jB qU rfl rfl rfl)) rfl ?_
 rfl
theorem AC (B : List Int) (hB : B.length ≤ 4000000000000000000) (hi : isB B) (h2 : 0 + 2 ≤ B.length) (hm : gB (bAt B 0) (bAt B 1) = false) : DFun Try.prog 38 [.slf 1 (B).length ((B).flatMap uc8)] [] (.tup [.val (.agg #[.int .i64 0, .int .i64 0, .slice none 0 0]), .val (.int .i64 0), .val (.int .i64 200)]) [] := by
 refine qn (N := 17) 0 (by kernel_rfl) Try.func38 rfl rfl rfl (by simp only [fr0, qal, qam]; exact rfl) rfl fun s0 hs0 => ?_
 refine qF rfl hs0 ?_
 refine zam 3 ?_
 refine zac ?_
 refine zaj rfl (zao 0 rfl Vx rfl) ?_
 refine zaj rfl (zao 1 rfl zr3 rfl) ?_
 refine zaj rfl (zao 2 rfl j4 rfl) ?_
 refine zab ?_
 refine qr (l0 := [_]) rfl rfl rfl rfl rfl hs0 ?_
 refine za rfl (qX rfl en (ec (ev1 rfl) (ec (ev1 rfl) (ec (ev1 rfl) en)))) ?_
 refine zab ⟨_, _, _, 3, ev1 rfl, qaF hs0 (by decide), rfl, ?_⟩
 have hs1 : s0.M.length ≤ 3 := qaF hs0 (by decide)
 refine qE rfl hs0 ?_
 refine zag ?_
 refine zam 1 ?_
 refine zac ?_
 refine zaa 1 rfl ?_
 refine za rfl (jW (ps := [(1, .tmp 7)]) rfl Qy xn (ec (ev1 rfl) en) rfl rfl rfl) ?_
 refine zaj rfl (zao 3 rfl xn rfl) ?_
 refine qc rfl (kL rfl QD (ev1 rfl) (ev1 rfl) rfl rfl rfl rfl) ?_
 refine zab ?_
 refine zah ?_
 refine ke rfl (qA [3] [] [] rfl (ev1 rfl) (ec (ev1 rfl) en) rfl rfl ((Uw B hB hi h2 hm).dead) rfl rfl rfl rfl rfl rfl) rfl ?_
 refine jO (qP [0, 1, 2] [] rfl rfl rfl (wV _ _) rfl rfl rfl rfl rfl) ?_
 refine qH (rs3 rfl (vf vA rfl rfl rfl) (jB tb3 rfl rfl rfl) (jB qU rfl rfl rfl)) rfl ?_
 rfl
theorem KP {w h : Int} {ts : List TL} (hr : jb w h ts = true) : gB w h = true := by
 unfold jb at hr
 rw [qan] at hr
 exact hr.1
end Go.Proofs.Ytofklkbfkoliiaa
namespace Go.Proofs.Ytofklkbfkoliiaa
set_option linter.unusedVariables false
set_option linter.unusedSimpArgs false
open Go.RowKit
attribute [local irreducible] ku kY gU gf qL
def wE (t u : TL) : List Int := if t = u then [0] else gf t
theorem zN (kn : List TL → TL) : ∀ (a acc b : List TL), qL kn acc (a ++ b) = qL kn acc a ++ qL kn (acc ++ a) b
 | [], acc, b => by rw [qaw, qa6, qL, qaw]
 | t :: a, acc, b => by
  rw [qas, qL, qL, zN kn a (acc ++ [t]) b, qaQ, qaQ]
  rfl
theorem xp (kn : List TL → TL) {ts : List TL} {k : Nat} (hk : k < ts.length) : qL kn [] (ts.take (k + 1)) = qL kn [] (ts.take k) ++ wE ts[k] (kn (ts.take k)) := by
 rw [qaU hk, zN, qaw]
 congr 1
 rw [qL, qL, qa6]
 rfl
theorem KQ (t : TL) : (gf t).length ≤ 320 := by
 have h1 := uE t.l
 have h2 := t.h
 unfold gf
 rw [zJ]
 omega
theorem VR (t u : TL) : (wE t u).length ≤ 320 := by
 unfold wE
 split
 ·simp
 ·exact KQ t
theorem wW (kn : List TL → TL) : ∀ (ts acc : List TL), (qL kn acc ts).length ≤ ts.length * 320
 | [], _ => by rw [qL]; simp
 | t :: ts, acc => by
  have h1 := wW kn ts (acc ++ [t])
  have h2 := VR t (kn acc)
  unfold wE at h2
  rw [qL, qap, qaI]
  omega
theorem wX (kn : List TL → TL) (acc : List TL) : qL kn acc [] = [] := by rw [qL]
theorem Hq (out b : List Int) : out.flatMap uc8 ++ b.flatMap uc8 = (out ++ b).flatMap uc8 := by rw [List.flatMap_append]
theorem Zn (a b : Int) (old : List TL) (k : Nat) (hk : k ≤ old.length) (hl : old.length ≤ 5000) (out : List Int) (hout : out.length ≤ 100000) (t : TL) : DFun Try.prog 73 [.arr 0, .val (.int .i64 (k : Int)), tD t, .loc 1 0] [.arr 5 1 (out).length ((out).flatMap uc8), .mix 117 [.fn (.func 75) [] [.loc 2 0]], .mix 119 [.loc 3 0], .mix 50 [.val (.int .i64 a), .val (.int .i64 b), .slf 256 old.length (old.flatMap tc)]] (.arr 4) [.gone, .mix 117 [.fn (.func 75) [] [.loc 2 0]], .mix 119 [.loc 3 0], .mix 50 [.val (.int .i64 a), .val (.int .i64 b), .slf 256 old.length (old.flatMap tc)], .arr 5 1 ((out ++ wE t (ka (old.take k)))).length (((out ++ wE t (ka (old.take k)))).flatMap uc8)] := by
 have htl := KQ t
 refine zan (N := 20) 4 (by kernel_rfl) Try.func73 rfl rfl rfl (by simp only [fr0, qal, qam]; exact rfl) rfl fun s0 hs0 => ?_
 refine J1 (i := 0) rfl fun hl0 hL0 => ?_
 refine zag ?_
 refine zam 1 ?_
 refine zac ?_
 refine zaj rfl (gn 4 rfl (ev1 rfl) rfl) ?_
 refine zaa 1 rfl ?_
 refine zab ?_
 refine zag ?_
 refine zag ?_
 refine qk [([4], []), ([1], []), ([], []), ([2, 3], [2, 3]), ([], [])] qW (by kernel_rfl) ?_
 refine zae rfl rfl (kG rfl kv (ev1 rfl) rfl (qw _)) ?_
 refine zae rfl rfl (qb rfl tb117 (ev1 rfl) rfl rfl) ?_
 refine zae rfl rfl (zal (.inl rfl) (ev1 rfl)) ?_
 refine yw rfl rfl (zai [2, 3] [] [] rfl (ev1 rfl) (ec (ev1 rfl) en) rfl rfl (Zk a b old k hk hl) rfl rfl rfl rfl rfl rfl) rfl (by simp only [upd, zad, zaf]; exact rfl) ?_
 refine zae rfl rfl (vg Qx rfl QB kv (ev1 rfl) (ev1 rfl)) ?_
 refine qu ?_
 refine qv rfl (fun c1 => ?_) (fun c1 => ?_)
 ·have c2 : t = (ka (old.take k)) := by simpa using c1
  refine zag ?_
  refine zam 2 ?_
  refine zac ?_
  refine zaa 1 rfl ?_
  refine zaj rfl (zj (ps := [(0, .const (.int .u8 0))]) 5 rfl qK zr5 rfl (vc (ev1 rfl) vn) rfl (by decide) (by decide) rfl) ?_
  refine zaj rfl (vd (j := 6) rfl qK zr5 rfl (ev1 rfl) (ev1 rfl) (K7 rfl) rfl rfl (fun _ => rfl) (fun _ => ⟨by omega, by omega⟩)) ?_
  refine zaa 1 rfl ?_
  refine zab ?_
  refine qe ?_
  refine kc [0, 1, 2, 3, 6] (rs1 rfl (qO rfl)) rfl rfl ?_ ⟨rfl, rfl, rfl, rfl, vh (by unfold wE; rw [if_pos c2, qap]; rfl) (by unfold wE; rw [if_pos c2, ← Hq]; rfl), trivial⟩
  rfl
 ·have c2 : t ≠ (ka (old.take k)) := by simpa using c1
  refine qd ?_
  refine zag ?_
  refine zam 1 ?_
  refine zac ?_
  refine zaa 1 rfl ?_
  refine za rfl (kG rfl kv (ev1 rfl) rfl (qw _)) ?_
  refine za rfl (zai [] [] [] rfl (ev1 rfl) (ec (ev1 rfl) en) rfl rfl (Zg t) rfl rfl rfl rfl rfl rfl) ?_
  refine zaj rfl (vd (j := 5) rfl qK zr5 rfl (ev1 rfl) (ev1 rfl) yG rfl rfl (fun _ => yd (fun _ => rfl) _) (fun _ => ⟨by omega, by omega⟩)) ?_
  refine zaa 1 rfl ?_
  refine zab ?_
  refine qe ?_
  refine kc [0, 1, 2, 3, 5] (rs1 rfl (qO rfl)) rfl rfl ?_ ⟨rfl, rfl, rfl, rfl, vh (by unfold wE; rw [if_neg c2, qap]) (by unfold wE; rw [if_neg c2, ← Hq]), trivial⟩
  rfl
theorem AD (a b : Int) (old : List TL) (hl : old.length ≤ 100)  : DFun Try.prog 72 [.slf 256 old.length (old.flatMap tc), .arr 0, .fn (.func 73) [] [.loc 1 0]] [.arr 5 1 (([a, b] : List Int)).length ((([a, b] : List Int)).flatMap uc8), .mix 117 [.fn (.func 75) [] [.loc 2 0]], .mix 119 [.loc 3 0], .mix 50 [.val (.int .i64 a), .val (.int .i64 b), .slf 256 old.length (old.flatMap tc)]] (.arr 4) [.gone, .mix 117 [.fn (.func 75) [] [.loc 2 0]], .mix 119 [.loc 3 0], .mix 50 [.val (.int .i64 a), .val (.int .i64 b), .slf 256 old.length (old.flatMap tc)], .arr 5 1 (([a, b] ++ qL ka [] old)).length ((([a, b] ++ qL ka [] old)).flatMap uc8)] := by
 refine zan (N := 23) 4 (by kernel_rfl) Try.func72 rfl rfl rfl (by simp only [fr0, qal, qam]; exact rfl) rfl fun s0 hs0 => ?_
 refine kP (t := 0) rfl fun hl0 hL0 => ?_
 refine J1 (i := 0) rfl fun hl1 hL1 => ?_
 refine zah ?_
 refine zaa 1 rfl ?_
 refine zab ?_
 refine zag ?_
 refine zag ?_
 refine Ai 1 rfl rfl rfl (by simp only [qas, qaw, zad, zaf]; exact rfl) ?_
 refine zac ?_
 refine zaa 1 rfl ?_
 refine za rfl (qJ rfl wU (ev1 rfl)) ?_
 refine zaa 1 rfl ?_
 refine zab ?_
 refine qf ?_
 refine qY ⟨hs0, rfl⟩ (α := Nat) (fun k => [(11, .val (.int .i64 (k : Int)))]) [(1, _), (2, _), (9, _), (10, _)] (fun k => [(4, .arr 5 1 (([a, b] ++ qL ka [] (old.take (k)))).length ((([a, b] ++ qL ka [] (old.take (k)))).flatMap uc8))]) [_, _, _, _, .hole] (fun k => k ≤ old.length) (fun k => old.length - k) 0 [0, 1, 2, 3, 4] (qaZ _) rfl ⟨rfl, rfl, rfl, rfl, trivial⟩ ⟨rfl, trivial⟩ ⟨rfl, rfl, rfl, rfl, by rw [List.take_zero, wX]; rfl, trivial⟩ ?_
 intro k hx
 simp only [upd, zad, zaf, qas, qaw]
 have hk0 := hx
 have hbl := wW ka (old.take k) []
 rw [qaN] at hbl
 refine zah ?_
 refine za rfl (qI rfl (ev1 rfl) (ev1 rfl)) ?_
 refine zab ?_
 refine zag ?_
 refine qv rfl (fun c1 => ?_) (fun c1 => ?_)
 ·try simp only [decide_eq_true_eq, decide_eq_false_iff_not, beq_iff_eq, bne_iff_ne, beq_eq_false_iff_ne, bne_eq_false_iff_eq, qau, qay, qan, qaA, qar, ne_eq, Decidable.not_not, qaO, qaP] at c1
  refine qd ?_
  refine zag ?_
  refine qf ?_
  refine zag ?_
  have hk : k < old.length := by omega
  refine zam 1 ?_
  refine zac ?_
  refine zaa 1 rfl ?_
  refine za rfl (qS (j := k) rfl wU (ev1 rfl) (ev1 rfl) qw (by decide) (by omega) (by omega)) ?_
  refine za rfl (xF rfl kv (ev1 rfl) (qw _)) ?_
  refine zaj rfl (zao 5 rfl jZ rfl) ?_
  refine zaa 1 rfl ?_
  refine qc rfl (q0 rfl kv (ev1 rfl) (ev1 rfl) rfl (qw _) (ya _) ((qw _).trans (qw _).symm)) ?_
  refine zab ?_
  refine zam 1 ?_
  refine zac ?_
  refine zaa 3 rfl ?_
  refine za rfl (kG rfl kv (ev1 rfl) rfl (qw _)) ?_
  refine zaj rfl (zai [4, 1, 2, 3] [] [6] rfl (ev1 rfl) (ec (ev1 rfl) (ec (ev1 rfl) (ec (ev1 rfl) en))) rfl rfl (Zn a b old k (by omega) (by omega) ([a, b] ++ qL ka [] (old.take (k))) (by simp only [qap, qaI, qa4]; omega) _) rfl rfl rfl rfl rfl rfl) ?_
  refine zaa 1 rfl ?_
  refine zab ?_
  refine zac ?_
  refine za rfl (qx rfl (ev1 rfl) (ev1 rfl) (fun _ => qat _ (by omega))) ?_
  refine zaa 1 rfl ?_
  refine zab ?_
  refine ⟨k + 1, [0, 1, 2, 3, 6], by omega, by simp only []; omega, rfl, ⟨rfl, rfl, rfl, rfl, rfl, trivial⟩, ⟨rfl, rfl, rfl, rfl, vh (by rw [xp _ hk]; rfl) (by rw [xp _ hk]; rfl), trivial⟩⟩
 ·try simp only [decide_eq_true_eq, decide_eq_false_iff_not, beq_iff_eq, bne_iff_ne, beq_eq_false_iff_ne, bne_eq_false_iff_eq, qau, qay, qan, qaA, qar, ne_eq, Decidable.not_not, qaO, qaP] at c1
  refine qQ ?_
  refine zah ?_
  refine zaa 2 rfl ?_
  refine zab ?_
  refine qe ?_
  have hke : old.take k = old := qaK (by omega)
  refine kc [0, 1, 2, 3, 4] (rs1 rfl (qO rfl)) rfl rfl ?_ ⟨rfl, rfl, rfl, rfl, vh (by rw [hke]) (by rw [hke]), trivial⟩
  rfl
end Go.Proofs.Ytofklkbfkoliiaa
namespace Go.Proofs.Ytofklkbfkoliiaa
set_option linter.unusedVariables false
set_option linter.unusedSimpArgs false
open Go.RowKit
attribute [local irreducible] ku kY gU gf qL
theorem AE (a b : Int) (old : List TL) (hm : gB a b = true) (hl : old.length ≤ 100) : DFun Try.prog 55 [.agg [.val (.int .i64 a), .val (.int .i64 b), .slf 256 old.length (old.flatMap tc)], .fn (.func 75) [] [.loc 0 0]] [.mix 119 [.loc 1 0], .mix 50 [.val (.int .i64 a), .val (.int .i64 b), .slf 256 old.length (old.flatMap tc)]] (.arr 2) [.mix 119 [.loc 1 0], .mix 50 [.val (.int .i64 a), .val (.int .i64 b), .slf 256 old.length (old.flatMap tc)], .arr 5 1 ((a :: b :: qL ka [] old)).length (((a :: b :: qL ka [] old)).flatMap uc8)] := by
 have hb := Jm hm
 refine zan (N := 16) 2 (by kernel_rfl) Try.func55 rfl rfl rfl (by simp only [fr0, qal, qam]; exact rfl) rfl fun s0 hs0 => ?_
 refine zag ?_
 refine zam 2 ?_
 refine zac ?_
 refine zaj rfl (qz 2 rfl (ev1 rfl) rfl) ?_
 refine zaj rfl (jV 3 rfl (ev1 rfl) (fun s v h => by cases h <;> rfl) rfl) ?_
 refine zaa 1 rfl ?_
 refine zab ?_
 refine zag ?_
 refine zam 2 ?_
 refine zac ?_
 refine za rfl (qa rfl gY (ev1 rfl)) ?_
 refine za rfl (qb rfl xw (ev1 rfl) rfl rfl) ?_
 refine za rfl (qa rfl yM (ev1 rfl)) ?_
 refine za rfl (qb rfl tb3 (ev1 rfl) rfl rfl) ?_
 refine za rfl (ju ty3 kn5 rfl (ev1 rfl) (fun _ => IntWalk.u8_in _ (by omega))) ?_
 refine za rfl (qa rfl yN (ev1 rfl)) ?_
 refine za rfl (qb rfl tb3 (ev1 rfl) rfl rfl) ?_
 refine za rfl (ju ty3 kn5 rfl (ev1 rfl) (fun _ => IntWalk.u8_in _ (by omega))) ?_
 refine zaj rfl (zj (ps := [(0, .tmp 9), (1, .tmp 12)]) 4 rfl qK zr5 rfl (vc (ev1 rfl) (vc (ev1 rfl) vn)) rfl (by decide) (by decide) rfl) ?_
 refine za rfl (qX rfl en (ec (ev1 rfl) en)) ?_
 refine zaj rfl (zai [4, 3, 0, 1] [] [5] rfl (ev1 rfl) (ec (ev1 rfl) (ec (ev1 rfl) (ec (ev1 rfl) en))) rfl rfl (AD a b old hl) rfl rfl rfl rfl rfl rfl) ?_
 refine zaa 1 rfl ?_
 refine zab ?_
 refine qe ?_
 refine kc [0, 1, 5] (rs1 rfl (qO rfl)) rfl rfl ?_ ⟨rfl, rfl, rfl, trivial⟩
 rfl
theorem cnv_y (a b : Int) (old : List TL) (hr : jb a b old = true) (hl : old.length ≤ 100) : DFun Try.prog 33 [.agg [.val (.int .i64 a), .val (.int .i64 b), .slf 256 old.length (old.flatMap tc)]] [] (.tup [.arr 0, .val (.int .i64 0)]) [.arr 5 1 ((kw a b old)).length (((kw a b old)).flatMap uc8)] := by
 have hm := KP hr
 refine zan (N := 13) 0 (by kernel_rfl) Try.func33 rfl rfl rfl (by simp only [fr0, qal, qam]; exact rfl) rfl fun s0 hs0 => ?_
 refine zag ?_
 refine zam 1 ?_
 refine zac ?_
 refine zaj rfl (qz 0 rfl (ev1 rfl) rfl) ?_
 refine zaa 2 rfl ?_
 refine zab ?_
 refine zag ?_
 refine zah ?_
 refine za rfl (qi rfl vA (ev1 rfl) rfl rfl) ?_
 refine za rfl (zai [] [] [] rfl (ev1 rfl) (ec (ev1 rfl) en) rfl rfl (Gq a b old) rfl rfl rfl rfl rfl rfl) ?_
 refine zaa 1 rfl ?_
 refine zab ?_
 refine zah ?_
 refine zaa 1 rfl ?_
 refine za rfl (ki rfl (ev1 rfl) (ev1 rfl)) ?_
 refine zab ?_
 refine qj rfl (by rw [hr]; rfl) ?_
 refine qd ?_
 refine zag ?_
 refine zam 2 ?_
 refine Vi [0] 1 [0] [.mix 50 [.val (.int .i64 a), .val (.int .i64 b), .slf 256 old.length (old.flatMap tc)], .mix 119 [.loc 0 0], .hole] [([0], []), ([0, 1], [0, 1]), ([1, 0, 2], [1, 0, 2]), ([], []), ([], [])] rfl qW (by kernel_rfl) ?_
 refine H5 rfl rfl rfl rfl (qi rfl vA (ev1 rfl) rfl rfl) (qi rfl vA (ev1 rfl) rfl rfl) (qi rfl vA (ev1 rfl) rfl rfl) ?_
 refine H6 rfl rfl rfl (zai [0] [] [1] rfl (ev1 rfl) (ec (ev1 rfl) en) rfl rfl (Zl a b old) rfl rfl rfl rfl rfl rfl) rfl (by simp only [upd, zad, zaf]; exact rfl) (by simp only [List.mem_cons, List.not_mem_nil, or_false]; rintro x rfl; rfl) ?_
 refine H4 rfl rfl rfl (zai [1, 0] [] [2] rfl (ev1 rfl) (ec (ev1 rfl) (ec (ev1 rfl) en)) rfl rfl (AE a b old hm hl) rfl rfl rfl rfl rfl rfl) rfl (by simp only [upd, zad, zaf]; exact rfl) ?_
 refine WN rfl rfl rfl (zal (.inr rfl) (ev1 rfl)) ?_
 refine WN rfl rfl rfl (zal (.inr rfl) (ev1 rfl)) ?_
 refine WO ?_
 refine qe ?_
 refine kc [2] (rs2 rfl (qO rfl) (qO rfl)) rfl rfl ?_ ⟨rfl, trivial⟩
 rfl
end Go.Proofs.Ytofklkbfkoliiaa
namespace Go.Proofs.Ytofklkbfkoliiaa
set_option linter.unusedVariables false
set_option linter.unusedSimpArgs false
open Go.RowKit
section
variable {P : Program} {pc : Bool} {o : Oper} {F : Fr} {M : List Blk}
end
section
variable {P : Program} {s0 : St} {n : Cx}
theorem Zo {co : Code} {F : Fr} {M M' : List Blk} {K : Cont} {k k' : Blk} (i : Nat) (h : k = k') (hi : M[i]? = some k) (hM : M.set i k' = M') (hw : dwp P s0 n co F M' K) : dwp P s0 n co F M K := by
 subst h hM
 obtain ⟨hl, he⟩ := qaj.1 hi
 rw [← he, List.set_getElem_self] at hw
 exact hw
end
end Go.Proofs.Ytofklkbfkoliiaa
namespace Go.Proofs.Ytofklkbfkoliiaa
set_option linter.unusedVariables false
set_option linter.unusedSimpArgs false
open Go.RowKit
attribute [local irreducible] k8 rdP rdN gT jX ku kY gU gf qL kw
theorem cnv_f (a b : Int) (old : List TL) (hr : jb a b old = true) (hl : old.length ≤ 100) : DFun Try.prog 33 [.agg [.val (.int .i64 a), .val (.int .i64 b), .slf 256 old.length (old.flatMap tc)]] [] (.tup [.slf 1 ((kw a b old)).length (((kw a b old)).flatMap uc8), .val (.int .i64 0)]) [] := yL (cnv_y a b old hr hl) rfl
theorem Hr (B : List Int) (hB : B.length ≤ 4000000000000000000) (hi : isB B) (n : Nat) (h2 : 0 + 2 ≤ B.length) (hm : gB (bAt B 0) (bAt B 1) = true) (hn : bAt B 0 * bAt B 1 = (n : Int)) (ts : List TL) (q : Nat) (h0 : jX ka B n [] 2 = some (ts, q)) : DFun Try.prog 38 [.slf 1 (B).length ((B).flatMap uc8)] [] (.tup [.agg [.val (.int .i64 (bAt B 0)), .val (.int .i64 (bAt B 1)), .slf 256 ts.length (ts.flatMap tc)], .val (.int .i64 (q : Nat)), .val (.int .i64 0)]) [] := yL (rdc_y B hB hi n h2 hm hn ts q h0) rfl
theorem YG (l r : List Int) : DFun Try.prog 10 [.slf 1 l.length (l.flatMap uc8), .slf 1 r.length (r.flatMap uc8)] [] (.val (.bool (decide (l = r)))) [] := by
 refine zan (N := 26) 0 (by kernel_rfl) Try.func10 rfl rfl rfl (by simp only [fr0, qal, qam]; exact rfl) rfl fun s0 hs0 => ?_
 refine kP (t := 0) rfl fun hl0 hL0 => ?_
 refine kP (t := 1) rfl fun hl1 hL1 => ?_
 refine zah ?_
 refine zaa 1 rfl ?_
 refine zab ?_
 refine zag ?_
 refine zah ?_
 refine zaa 1 rfl ?_
 refine za rfl (qJ rfl qK (ev1 rfl)) ?_
 refine zaa 1 rfl ?_
 refine za rfl (qJ rfl qK (ev1 rfl)) ?_
 refine za rfl (ki rfl (ev1 rfl) (ev1 rfl)) ?_
 refine zab ?_
 refine qv rfl (fun c1 => ?_) (fun c1 => ?_)
 ·try simp only [decide_eq_true_eq, decide_eq_false_iff_not, beq_iff_eq, bne_iff_ne, beq_eq_false_iff_ne, bne_eq_false_iff_eq, qau, qay, qan, qaA, qar, ne_eq, Decidable.not_not, qaO, qaP] at c1
  refine zah ?_
  refine zaa 1 rfl ?_
  refine zab ?_
  refine qe ?_
  refine qH (rs1 rfl (qO rfl)) rfl ?_
  have hne : l ≠ r := fun e => by subst e; exact c1 rfl
  rw [decide_eq_false hne]
 ·try simp only [decide_eq_true_eq, decide_eq_false_iff_not, beq_iff_eq, bne_iff_ne, beq_eq_false_iff_ne, bne_eq_false_iff_eq, qau, qay, qan, qaA, qar, ne_eq, Decidable.not_not, qaO, qaP] at c1
  have hlen : l.length = r.length := by omega
  refine qd ?_
  refine zag ?_
  refine zah ?_
  refine zaa 1 rfl ?_
  refine za rfl (qJ rfl qK (ev1 rfl)) ?_
  refine zaa 1 rfl ?_
  refine zab ?_
  refine qf ?_
  refine qY ⟨hs0, rfl⟩ (α := Nat) (fun k => [(13, .val (.int .i64 (k : Int)))]) [(0, _), (1, _), (12, _)] (fun k => []) [] (fun k => k ≤ l.length ∧ l.take k = r.take k) (fun k => l.length - k) 0 [] (by simp) rfl ⟨rfl, rfl, rfl, trivial⟩ ⟨rfl, trivial⟩ trivial ?_
  intro k hx
  simp only [upd, zad, zaf, qas, qaw]
  obtain ⟨hk, he⟩ := hx
  refine zah ?_
  refine za rfl (qI rfl (ev1 rfl) (ev1 rfl)) ?_
  refine zab ?_
  refine zag ?_
  refine qv rfl (fun c2 => ?_) (fun c2 => ?_)
  ·try simp only [decide_eq_true_eq, decide_eq_false_iff_not, beq_iff_eq, bne_iff_ne, beq_eq_false_iff_ne, bne_eq_false_iff_eq, qau, qay, qan, qaA, qar, ne_eq, Decidable.not_not, qaO, qaP] at c2
   refine qd ?_
   refine zag ?_
   refine qf ?_
   refine zah ?_
   refine zaa 2 rfl ?_
   refine zab ?_
   refine zag ?_
   refine qk [([], []), ([], []), ([], []), ([], []), ([], []), ([], []), ([], []), ([], []), ([], [])] qW (by kernel_rfl) ?_
   refine zae rfl rfl (zal (.inl rfl) (ev1 rfl)) ?_
   refine zae rfl rfl (zal (.inl rfl) (ev1 rfl)) ?_
   refine zae rfl rfl (qS (j := k) rfl qK (ev1 rfl) (ev1 rfl) (fun _ => rfl) (by decide) (by omega) (by omega)) ?_
   refine zae rfl rfl (qV rfl tb5 (ev1 rfl) rfl) ?_
   refine zae rfl rfl (zal (.inl rfl) (ev1 rfl)) ?_
   refine zae rfl rfl (zal (.inl rfl) (ev1 rfl)) ?_
   refine zae rfl rfl (qS (j := k) rfl qK (ev1 rfl) (ev1 rfl) (fun _ => rfl) (by decide) (by omega) (by omega)) ?_
   refine zae rfl rfl (qV rfl tb5 (ev1 rfl) rfl) ?_
   refine zae rfl rfl (ki rfl (ev1 rfl) (ev1 rfl)) ?_
   refine qu ?_
   refine qv rfl (fun c2 => ?_) (fun c2 => ?_)
   ·have c3 : l[k] ≠ r[k] := by simpa using c2
    refine zah ?_
    refine zaa 1 rfl ?_
    refine zab ?_
    refine qe ?_
    refine qH (rs1 rfl (qO rfl)) rfl ?_
    have hne : l ≠ r := fun e => by subst e; exact c3 rfl
    rw [decide_eq_false hne]
   ·have c3 : l[k] = r[k] := by simpa using c2
    refine qd ?_
    refine zac ?_
    refine za rfl (qx rfl (ev1 rfl) (ev1 rfl) (fun _ => qat _ (by omega))) ?_
    refine zaa 1 rfl ?_
    refine zab ?_
    refine ⟨k + 1, [], ⟨by omega, by rw [qaU (by omega), qaU (by omega), he, c3]⟩, by simp only []; omega, rfl, ⟨rfl, rfl, rfl, rfl, trivial⟩, trivial⟩
  ·try simp only [decide_eq_true_eq, decide_eq_false_iff_not, beq_iff_eq, bne_iff_ne, beq_eq_false_iff_ne, bne_eq_false_iff_eq, qau, qay, qan, qaA, qar, ne_eq, Decidable.not_not, qaO, qaP] at c2
   refine qQ ?_
   refine zah ?_
   refine zaa 1 rfl ?_
   refine zab ?_
   refine qe ?_
   refine qH (rs1 rfl (qO rfl)) rfl ?_
   have e : l = r := by
    have h := he
    rw [qaK (by omega), qaK (by omega)] at h
    exact h
   rw [decide_eq_true e]
theorem UC (l : List Int) (h : l.length ≤ 2000000) : DFun Try.prog 41 [.slf 1 l.length (l.flatMap uc8)] [] (.arr 0) [.arr 5 1 l.length (l.flatMap uc8)] := by
 refine zan (N := 8) 0 (by kernel_rfl) Try.func41 rfl rfl rfl (by simp only [fr0, qal, qam]; exact rfl) rfl fun s0 hs0 => ?_
 refine kP (t := 0) rfl fun hl0 hL0 => ?_
 refine zah ?_
 refine zaa 1 rfl ?_
 refine zab ?_
 refine zag ?_
 refine zah ?_
 refine zaa 1 rfl ?_
 refine Vc rfl rfl rfl rfl qK (ev1 rfl) fun nb4 hnb4 => ?_
 refine zab ?_
 refine qv rfl (fun c1 => ?_) (fun c1 => ?_)
 ·try simp only [decide_eq_true_eq, decide_eq_false_iff_not, beq_iff_eq, bne_iff_ne, beq_eq_false_iff_ne, bne_eq_false_iff_eq, qau, qay, qan, qaA, qar, ne_eq, Decidable.not_not, qaO, qaP] at c1
  refine zah ?_
  refine zaa 1 rfl ?_
  refine zab ?_
  refine Ks 2 5 1 rfl rfl rfl ?_
  refine qe ?_
  refine kc [0] (rs1 rfl (qO rfl)) rfl rfl ?_ ⟨?_, trivial⟩
  rfl
  exact (by obtain ⟨h1, h2⟩ := hnb4 c1; simp_all [MFits, vwB])
 ·try simp only [decide_eq_true_eq, decide_eq_false_iff_not, beq_iff_eq, bne_iff_ne, beq_eq_false_iff_ne, bne_eq_false_iff_eq, qau, qay, qan, qaA, qar, ne_eq, Decidable.not_not, qaO, qaP] at c1
  refine qd ?_
  refine zag ?_
  refine zam 2 ?_
  refine zac ?_
  refine zaj rfl (zj (ps := []) 0 rfl qK zr5 rfl vn rfl (by decide) (by decide) rfl) ?_
  refine zaa 1 rfl ?_
  refine zaj rfl (vd (j := 1) rfl qK zr5 rfl (ev1 rfl) (ev1 rfl) yG rfl rfl (fun _ => yd (fun _ => rfl) l) (fun _ => ⟨by omega, by omega⟩)) ?_
  refine zaa 1 rfl ?_
  refine zab ?_
  refine qe ?_
  refine kc [1] (rs1 rfl (qO rfl)) rfl rfl ?_ ⟨?_, trivial⟩
  rfl
  simp [vwB]
theorem y0 (l : List Int) (h : l.length ≤ 2000000) : DFun Try.prog 41 [.slf 1 l.length (l.flatMap uc8)] [] (.slf 1 l.length (l.flatMap uc8)) [] := yL (UC l h) rfl
theorem AF {α : Type} (l : List α) (n : Nat) : l.take (min l.length n) = l.take n := by
 rcases Nat.le_total l.length n with h | h
 ·rw [Nat.min_eq_left h, List.take_length, qaK h]
 ·rw [Nat.min_eq_right h]
end Go.Proofs.Ytofklkbfkoliiaa
namespace Go.Proofs.Ytofklkbfkoliiaa
set_option linter.unusedVariables false
set_option linter.unusedSimpArgs false
open Go.RowKit
theorem QK (l : List Int) (h : l.length ≤ 1048576) : DFun Try.prog 79 [.slf 1 (l).length ((l).flatMap uc8)] [] (.tup [.loc 0 0, .val (.int .i64 0)]) [.mix 175 [.slf 1 (l).length ((l).flatMap uc8), .val (.int .i64 0)]] := by
 refine zan (N := 12) 0 (by kernel_rfl) Try.func79 rfl rfl rfl (by simp only [fr0, qal, qam]; exact rfl) rfl fun s0 hs0 => ?_
 refine kP (t := 0) rfl fun hl0 hL0 => ?_
 refine zah ?_
 refine zaa 2 rfl ?_
 refine zab ?_
 refine zag ?_
 refine zah ?_
 refine zaa 1 rfl ?_
 refine za rfl (qJ rfl qK (ev1 rfl)) ?_
 refine za rfl (kD rfl (ev1 rfl) (ev1 rfl)) ?_
 refine zab ?_
 refine qj rfl (decide_eq_false (by omega)) ?_
 refine qd ?_
 refine zag ?_
 refine zam 1 ?_
 refine zac ?_
 refine zaa 1 rfl ?_
 refine za rfl (zai [] [] [] rfl (ev1 rfl) (ec (ev1 rfl) en) rfl rfl (y0 _ (by omega)) rfl rfl rfl rfl rfl rfl) ?_
 refine za rfl (Jf rfl W8 Gn (ev1 rfl) rfl) ?_
 refine za rfl (Y8 rfl (ev1 rfl) fl175 zr175 rfl) ?_
 refine zaj rfl (qz 0 rfl (ev1 rfl) rfl) ?_
 refine zaa 2 rfl ?_
 refine zab ?_
 refine qe ?_
 refine kc [0] (rs2 rfl (qO rfl) (qO rfl)) rfl rfl ?_ ⟨rfl, trivial⟩
 rfl
theorem YH (l : List Int) (e : Int) : DDef Try.prog 100 [.loc 0 0] [.mix 146 [.loc 1 0], .mix 175 [.slf 1 (l).length ((l).flatMap uc8), .val (.int .i64 e)]] none none [.mix 146 [.loc 1 0], .mix 175 [.slf 1 (l).length ((l).flatMap uc8), .val (.int .i64 0)]] := by
 refine J8 (dr := .tup []) (t := 2) (N := 7) 2 1 [[0, 1, 2, 3, 4, 5, 6], [1, 0, 2, 3, 4, 5, 6], [1, 2, 0, 3, 4, 5, 6]] qW (by kernel_rfl) Try.func100 rfl rfl rfl (by simp only [fr0, qal, qam]; exact rfl) rfl rfl (by kernel_rfl) rfl rfl rfl rfl fun s0 hs0 L hL => ?_
 simp only [List.mem_cons, List.not_mem_nil, or_false] at hL
 rcases hL with rfl | rfl | rfl
 ·refine ⟨[0], [2, 3, 4, 5, 6], rfl, ?_⟩
  refine za rfl (qb rfl j8 (ev1 rfl) rfl rfl) ?_
  refine zab ?_
  refine za rfl (zai [] [] [] rfl (ev1 rfl) (ec (ev1 rfl) en) rfl rfl (yY) rfl rfl rfl rfl rfl rfl) ?_
  refine za rfl (qt rfl (ev1 rfl) (fun s v h => by cases h; exact ⟨_, rfl⟩)) ?_
  refine za rfl (qa rfl gb (ev1 rfl)) ?_
  refine za rfl (qa rfl yh (ev1 rfl)) ?_
  refine qc rfl (kF rfl qU (ev1 rfl) (ev1 rfl) (fun s v h => by cases h <;> exact ⟨rfl, rfl⟩) rfl (by first | decide | exact qaq rfl | simp)) ?_
  refine zab ?_
  refine kc [0, 1] (qD rfl) rfl rfl ?_ ⟨rfl, rfl, trivial⟩
  rfl
 ·refine ⟨[], [0, 2, 3, 4, 5, 6], rfl, ?_⟩
  refine zab ?_
  refine za rfl (qb rfl j8 (ev1 rfl) rfl rfl) ?_
  refine za rfl (zai [] [] [] rfl (ev1 rfl) (ec (ev1 rfl) en) rfl rfl (yY) rfl rfl rfl rfl rfl rfl) ?_
  refine za rfl (qt rfl (ev1 rfl) (fun s v h => by cases h; exact ⟨_, rfl⟩)) ?_
  refine za rfl (qa rfl gb (ev1 rfl)) ?_
  refine za rfl (qa rfl yh (ev1 rfl)) ?_
  refine qc rfl (kF rfl qU (ev1 rfl) (ev1 rfl) (fun s v h => by cases h <;> exact ⟨rfl, rfl⟩) rfl (by first | decide | exact qaq rfl | simp)) ?_
  refine zab ?_
  refine kc [0, 1] (qD rfl) rfl rfl ?_ ⟨rfl, rfl, trivial⟩
  rfl
 ·refine ⟨[], [2, 0, 3, 4, 5, 6], rfl, ?_⟩
  refine zab ?_
  refine za rfl (zai [] [] [] rfl (ev1 rfl) (ec (ev1 rfl) en) rfl rfl (yY) rfl rfl rfl rfl rfl rfl) ?_
  refine za rfl (qb rfl j8 (ev1 rfl) rfl rfl) ?_
  refine za rfl (qt rfl (ev1 rfl) (fun s v h => by cases h; exact ⟨_, rfl⟩)) ?_
  refine za rfl (qa rfl gb (ev1 rfl)) ?_
  refine za rfl (qa rfl yh (ev1 rfl)) ?_
  refine qc rfl (kF rfl qU (ev1 rfl) (ev1 rfl) (fun s v h => by cases h <;> exact ⟨rfl, rfl⟩) rfl (by first | decide | exact qaq rfl | simp)) ?_
  refine zab ?_
  refine kc [0, 1] (qD rfl) rfl rfl ?_ ⟨rfl, rfl, trivial⟩
  rfl
theorem Js (l : List Int) (e n : Int) : DDef Try.prog 100 [.loc 0 0] [.mix 146 [.loc 1 0], .mix 175 [.slf 1 (l).length ((l).flatMap uc8), .val (.int .i64 e)]] (some (.ifc 100 (.val (.agg #[.int .i64 n])))) none [.mix 146 [.loc 1 0], .mix 175 [.slf 1 (l).length ((l).flatMap uc8), .val (.int .i64 n)]] := by
 refine J8 (dr := .tup []) (t := 2) (N := 7) 2 1 [[0, 1, 2, 3, 4, 5, 6], [1, 0, 2, 3, 4, 5, 6], [1, 2, 0, 3, 4, 5, 6]] qW (by kernel_rfl) Try.func100 rfl rfl rfl (by simp only [fr0, qal, qam]; exact rfl) rfl rfl (by kernel_rfl) rfl rfl rfl rfl fun s0 hs0 L hL => ?_
 simp only [List.mem_cons, List.not_mem_nil, or_false] at hL
 rcases hL with rfl | rfl | rfl
 ·refine ⟨[0], [2, 3, 4, 5, 6], rfl, ?_⟩
  refine za rfl (qb rfl j8 (ev1 rfl) rfl rfl) ?_
  refine zab ?_
  refine za rfl (zai [] [] [] rfl (ev1 rfl) (ec (ev1 rfl) en) rfl rfl (xP n) rfl rfl rfl rfl rfl rfl) ?_
  refine za rfl (qt rfl (ev1 rfl) (fun s v h => by cases h; exact ⟨_, rfl⟩)) ?_
  refine za rfl (qa rfl gb (ev1 rfl)) ?_
  refine za rfl (qa rfl yh (ev1 rfl)) ?_
  refine qc rfl (kF rfl qU (ev1 rfl) (ev1 rfl) (fun s v h => by cases h <;> exact ⟨rfl, rfl⟩) rfl (by first | decide | exact qaq rfl | simp)) ?_
  refine zab ?_
  refine kc [0, 1] (qD rfl) rfl rfl ?_ ⟨rfl, rfl, trivial⟩
  rfl
 ·refine ⟨[], [0, 2, 3, 4, 5, 6], rfl, ?_⟩
  refine zab ?_
  refine za rfl (qb rfl j8 (ev1 rfl) rfl rfl) ?_
  refine za rfl (zai [] [] [] rfl (ev1 rfl) (ec (ev1 rfl) en) rfl rfl (xP n) rfl rfl rfl rfl rfl rfl) ?_
  refine za rfl (qt rfl (ev1 rfl) (fun s v h => by cases h; exact ⟨_, rfl⟩)) ?_
  refine za rfl (qa rfl gb (ev1 rfl)) ?_
  refine za rfl (qa rfl yh (ev1 rfl)) ?_
  refine qc rfl (kF rfl qU (ev1 rfl) (ev1 rfl) (fun s v h => by cases h <;> exact ⟨rfl, rfl⟩) rfl (by first | decide | exact qaq rfl | simp)) ?_
  refine zab ?_
  refine kc [0, 1] (qD rfl) rfl rfl ?_ ⟨rfl, rfl, trivial⟩
  rfl
 ·refine ⟨[], [2, 0, 3, 4, 5, 6], rfl, ?_⟩
  refine zab ?_
  refine za rfl (zai [] [] [] rfl (ev1 rfl) (ec (ev1 rfl) en) rfl rfl (xP n) rfl rfl rfl rfl rfl rfl) ?_
  refine za rfl (qb rfl j8 (ev1 rfl) rfl rfl) ?_
  refine za rfl (qt rfl (ev1 rfl) (fun s v h => by cases h; exact ⟨_, rfl⟩)) ?_
  refine za rfl (qa rfl gb (ev1 rfl)) ?_
  refine za rfl (qa rfl yh (ev1 rfl)) ?_
  refine qc rfl (kF rfl qU (ev1 rfl) (ev1 rfl) (fun s v h => by cases h <;> exact ⟨rfl, rfl⟩) rfl (by first | decide | exact qaq rfl | simp)) ?_
  refine zab ?_
  refine kc [0, 1] (qD rfl) rfl rfl ?_ ⟨rfl, rfl, trivial⟩
  rfl
theorem Zp (L : List Int) (hL : L.length ≤ 2000000) (w : Nat) (hw : 1 ≤ w ∧ w ≤ 8) (h : w ≤ L.length) : DFun Try.prog 98 [.loc 0 0, .loc 1 0, .loc 2 0] [.flat 3 [.int .i64 (w : Int)], .mix 146 [.loc 3 0], .flat 22 [.int .u64 0], .mix 175 [.slf 1 (L).length ((L).flatMap uc8), .val (.int .i64 0)]] (.tup []) [.flat 3 [.int .i64 (w : Int)], .mix 146 [.loc 3 0], .flat 22 [.int .u64 (ky w L)], .mix 175 [.slf 1 (L.drop w).length ((L.drop w).flatMap uc8), .val (.int .i64 0)]] := by
 refine zan (N := 11) 4 (by kernel_rfl) Try.func98 rfl rfl rfl (by simp only [fr0, qal, qam]; exact rfl) rfl fun s0 hs0 => ?_
 refine zah ?_
 refine za rfl (qq rfl tb3 (ev1 rfl) rfl rfl) ?_
 refine za rfl (xj (ps := [(0, .tmp 3)]) rfl vm zr3 rfl (vc (ev1 rfl) vn) rfl (by decide) (by decide)) ?_
 refine za rfl (zai [] [] [] rfl (ev1 rfl) (ec (ev1 rfl) en) rfl rfl (yX [(w : Int)] (by simp [Jn]; omega)) rfl rfl rfl rfl rfl rfl) ?_
 refine zab ?_
 refine qk [([1], []), ([], []), ([], []), ([0], []), ([3], [3]), ([2], [2])] qW (by kernel_rfl) ?_
 refine zae rfl rfl (qb rfl j8 (ev1 rfl) rfl rfl) ?_
 refine zae rfl rfl (qt rfl (ev1 rfl) (fun s v h => by cases h; exact ⟨_, rfl⟩)) ?_
 refine zae rfl rfl (qa rfl gb (ev1 rfl)) ?_
 refine zae rfl rfl (qq rfl tb3 (ev1 rfl) rfl rfl) ?_
 refine yw rfl rfl (zai [3] [] [] rfl (ev1 rfl) (ec (ev1 rfl) (ec (ev1 rfl) en)) rfl rfl (KI _ L (by omega) 0 w h) rfl rfl rfl rfl rfl rfl) rfl (by simp only [upd, zad, zaf]; exact rfl) ?_
 refine jY rfl rfl (qG rfl kz (ev1 rfl) (ev1 rfl) rfl) rfl (by simp only [upd, zad, zaf]; exact rfl) ?_
 refine qu ?_
 refine kc [0, 1, 2, 3] (qD rfl) rfl rfl ?_ ⟨rfl, rfl, rfl, rfl, trivial⟩
 rfl
theorem UD (L : List Int) (w : Nat) (hw : 1 ≤ w ∧ w ≤ 8) (h : L.length < w) : DPan Try.prog 98 [.loc 0 0, .loc 1 0, .loc 2 0] [.flat 3 [.int .i64 (w : Int)], .mix 146 [.loc 3 0], .flat 22 [.int .u64 0], .mix 175 [.slf 1 (L).length ((L).flatMap uc8), .val (.int .i64 0)]] (.ifc 100 (.val (.agg #[.int .i64 110]))) [.flat 3 [.int .i64 (w : Int)], .mix 146 [.loc 3 0], .flat 22 [.int .u64 0], .mix 175 [.slf 1 (L).length ((L).flatMap uc8), .val (.int .i64 0)]] := by
 refine zan (N := 11) 4 (by kernel_rfl) Try.func98 rfl rfl rfl (by simp only [fr0, qal, qam]; exact rfl) rfl fun s0 hs0 => ?_
 refine zah ?_
 refine za rfl (qq rfl tb3 (ev1 rfl) rfl rfl) ?_
 refine za rfl (xj (ps := [(0, .tmp 3)]) rfl vm zr3 rfl (vc (ev1 rfl) vn) rfl (by decide) (by decide)) ?_
 refine za rfl (zai [] [] [] rfl (ev1 rfl) (ec (ev1 rfl) en) rfl rfl (yX [(w : Int)] (by simp [Jn]; omega)) rfl rfl rfl rfl rfl rfl) ?_
 refine zab ?_
 refine yp 4 [([1], []), ([], []), ([], []), ([0], [])] qW (by kernel_rfl) rfl rfl ?_
 refine zae rfl rfl (qb rfl j8 (ev1 rfl) rfl rfl) ?_
 refine zae rfl rfl (qt rfl (ev1 rfl) (fun s v h => by cases h; exact ⟨_, rfl⟩)) ?_
 refine zae rfl rfl (qa rfl gb (ev1 rfl)) ?_
 refine zae rfl rfl (qq rfl tb3 (ev1 rfl) rfl rfl) ?_
 refine qu ⟨_, _, _, rfl, qA [3] [] [] rfl (ev1 rfl) (ec (ev1 rfl) (ec (ev1 rfl) en)) rfl rfl (zH _ L 0 w h) rfl rfl rfl rfl rfl rfl, ?_⟩
 refine K9 [0, 1, 2, 3] rfl rfl ?_ ⟨rfl, rfl, rfl, rfl, trivial⟩
 rfl
theorem UE (L : List Int) (hL : L.length ≤ 2000000) (w : Nat) (hw : 1 ≤ w ∧ w ≤ 8) (h : w ≤ L.length) : DFun Try.prog 97 [.loc 0 0, .fn (.func 98) [] [.loc 1 0, .loc 2 0, .loc 3 0]] [.mix 175 [.slf 1 (L).length ((L).flatMap uc8), .val (.int .i64 0)], .flat 3 [.int .i64 (w : Int)], .mix 146 [.loc 0 0], .flat 22 [.int .u64 0]] (.tup []) [.mix 175 [.slf 1 (L.drop w).length ((L.drop w).flatMap uc8), .val (.int .i64 0)], .flat 3 [.int .i64 (w : Int)], .mix 146 [.loc 0 0], .flat 22 [.int .u64 (ky w L)]] := by
 refine qn (N := 17) 4 (by kernel_rfl) Try.func97 rfl rfl rfl (by simp only [fr0, qal, qam]; exact rfl) rfl fun s0 hs0 => ?_
 refine qF rfl hs0 ?_
 refine zam 1 ?_
 refine zac ?_
 refine zaj rfl (jV 4 rfl (ev1 rfl) (fun s v h => by cases h <;> rfl) rfl) ?_
 refine zab ?_
 refine qF rfl hs0 ?_
 refine zah ?_
 refine za rfl (qb rfl j8 (ev1 rfl) rfl rfl) ?_
 refine za rfl (Y9 rfl QC (ev1 rfl)) ?_
 refine zaa 1 rfl ?_
 refine zak (qm rfl rfl rfl) rfl rfl rfl (qb rfl j8 (ev1 rfl) rfl rfl) ?_
 refine zak (qm rfl rfl rfl) rfl rfl rfl (qt rfl (ev2 rfl) (fun s v h => by cases h; exact ⟨_, rfl⟩)) ?_
 refine zak (qm rfl rfl rfl) rfl rfl rfl (qa rfl gb (ev2 rfl)) ?_
 refine zak (qm rfl rfl rfl) rfl rfl rfl (qa rfl yh (ev2 rfl)) ?_
 refine zak (qm rfl rfl rfl) rfl rfl rfl (qb rfl qU (ev2 rfl) rfl rfl) ?_
 refine zak (qm rfl rfl rfl) rfl rfl rfl (ki rfl (ev2 rfl) (ev1 rfl)) ?_
 refine za rfl (kC rfl (ev1 rfl) (ev3 rfl id)) ?_
 refine zab ?_
 refine qj rfl (rfl) ?_
 refine qd ?_
 refine qr (l0 := [_]) rfl rfl rfl rfl rfl hs0 ?_
 refine za rfl (qX rfl en (ec (ev1 rfl) en)) ?_
 refine zab ⟨_, _, _, 5, ev1 rfl, qaF hs0 (by decide), rfl, ?_⟩
 have hs1 : s0.M.length ≤ 5 := qaF hs0 (by decide)
 refine qE rfl hs0 ?_
 refine zac ?_
 refine zaa 1 rfl ?_
 refine zaj rfl (zai [1, 2, 3, 0] [] [] rfl (ev1 rfl) en rfl rfl (Zp L hL w hw h) rfl rfl rfl rfl rfl rfl) ?_
 refine zab ?_
 refine jO (kH [4, 0] [] rfl rfl (YH _ _) rfl rfl rfl rfl rfl) ?_
 refine kc [0, 1, 2, 3] (qD rfl) rfl rfl ?_ ⟨rfl, rfl, rfl, rfl, trivial⟩
 rfl
theorem UF (L : List Int) (w : Nat) (hw : 1 ≤ w ∧ w ≤ 8) (h : L.length < w) : DFun Try.prog 97 [.loc 0 0, .fn (.func 98) [] [.loc 1 0, .loc 2 0, .loc 3 0]] [.mix 175 [.slf 1 (L).length ((L).flatMap uc8), .val (.int .i64 0)], .flat 3 [.int .i64 (w : Int)], .mix 146 [.loc 0 0], .flat 22 [.int .u64 0]] (.tup []) [.mix 175 [.slf 1 (L).length ((L).flatMap uc8), .val (.int .i64 110)], .flat 3 [.int .i64 (w : Int)], .mix 146 [.loc 0 0], .flat 22 [.int .u64 0]] := by
 refine qn (N := 17) 4 (by kernel_rfl) Try.func97 rfl rfl rfl (by simp only [fr0, qal, qam]; exact rfl) rfl fun s0 hs0 => ?_
 refine qF rfl hs0 ?_
 refine zam 1 ?_
 refine zac ?_
 refine zaj rfl (jV 4 rfl (ev1 rfl) (fun s v h => by cases h <;> rfl) rfl) ?_
 refine zab ?_
 refine qF rfl hs0 ?_
 refine zah ?_
 refine za rfl (qb rfl j8 (ev1 rfl) rfl rfl) ?_
 refine za rfl (Y9 rfl QC (ev1 rfl)) ?_
 refine zaa 1 rfl ?_
 refine zak (qm rfl rfl rfl) rfl rfl rfl (qb rfl j8 (ev1 rfl) rfl rfl) ?_
 refine zak (qm rfl rfl rfl) rfl rfl rfl (qt rfl (ev2 rfl) (fun s v h => by cases h; exact ⟨_, rfl⟩)) ?_
 refine zak (qm rfl rfl rfl) rfl rfl rfl (qa rfl gb (ev2 rfl)) ?_
 refine zak (qm rfl rfl rfl) rfl rfl rfl (qa rfl yh (ev2 rfl)) ?_
 refine zak (qm rfl rfl rfl) rfl rfl rfl (qb rfl qU (ev2 rfl) rfl rfl) ?_
 refine zak (qm rfl rfl rfl) rfl rfl rfl (ki rfl (ev2 rfl) (ev1 rfl)) ?_
 refine za rfl (kC rfl (ev1 rfl) (ev3 rfl id)) ?_
 refine zab ?_
 refine qj rfl (rfl) ?_
 refine qd ?_
 refine qr (l0 := [_]) rfl rfl rfl rfl rfl hs0 ?_
 refine za rfl (qX rfl en (ec (ev1 rfl) en)) ?_
 refine zab ⟨_, _, _, 5, ev1 rfl, qaF hs0 (by decide), rfl, ?_⟩
 have hs1 : s0.M.length ≤ 5 := qaF hs0 (by decide)
 refine qE rfl hs0 ?_
 refine zac ?_
 refine zaa 1 rfl ?_
 refine ke rfl (qA [1, 2, 3, 0] [] [] rfl (ev1 rfl) en rfl rfl (UD L w hw h) rfl rfl rfl rfl rfl rfl) rfl ?_
 refine jO (qP [4, 0] [] rfl rfl rfl (Js _ _ _) rfl rfl rfl rfl rfl) ?_
 refine kc [0, 1, 2, 3] (qD rfl) rfl rfl ?_ ⟨rfl, rfl, rfl, rfl, trivial⟩
 rfl
theorem Zq (L : List Int) (hL : L.length ≤ 2000000) (w : Nat) (hw : 1 ≤ w ∧ w ≤ 8) (h : w ≤ L.length) : DFun Try.prog 91 [.loc 0 0, .val (.int .i64 (w : Int))] [.mix 175 [.slf 1 (L).length ((L).flatMap uc8), .val (.int .i64 0)]] (.val (.int .u64 (ky w L))) [.mix 175 [.slf 1 (L.drop w).length ((L.drop w).flatMap uc8), .val (.int .i64 0)]] := by
 refine zan (N := 9) 1 (by kernel_rfl) Try.func91 rfl rfl rfl (by simp only [fr0, qal, qam]; exact rfl) rfl fun s0 hs0 => ?_
 refine zag ?_
 refine zam 3 ?_
 refine zac ?_
 refine zaj rfl (jV 1 rfl (ev1 rfl) (fun s v h => by cases h <;> rfl) rfl) ?_
 refine zaj rfl (vb 2 rfl (ev1 rfl) rfl) ?_
 refine zaj rfl (zao 3 rfl zr22 rfl) ?_
 refine zab ?_
 refine zah ?_
 refine za rfl (qb rfl j8 (ev1 rfl) rfl rfl) ?_
 refine za rfl (qX rfl en (ec (ev1 rfl) (ec (ev1 rfl) (ec (ev1 rfl) en)))) ?_
 refine zaj rfl (zai [0, 2, 1, 3] [] [] rfl (ev1 rfl) (ec (ev1 rfl) (ec (ev1 rfl) en)) rfl rfl (UE L hL w hw h) rfl rfl rfl rfl rfl rfl) ?_
 refine zab ?_
 refine zah ?_
 refine za rfl (qq rfl kz (ev1 rfl) rfl rfl) ?_
 refine qc rfl (qG rfl kz (ev1 rfl) (ev1 rfl) rfl) ?_
 refine zab ?_
 refine qe ?_
 refine kc [0] (rs1 rfl (jB kz rfl rfl rfl)) rfl rfl ?_ ⟨rfl, trivial⟩
 rfl
theorem UG (L : List Int) (w : Nat) (hw : 1 ≤ w ∧ w ≤ 8) (h : L.length < w) : DFun Try.prog 91 [.loc 0 0, .val (.int .i64 (w : Int))] [.mix 175 [.slf 1 (L).length ((L).flatMap uc8), .val (.int .i64 0)]] (.val (.int .u64 0)) [.mix 175 [.slf 1 (L).length ((L).flatMap uc8), .val (.int .i64 110)]] := by
 refine zan (N := 9) 1 (by kernel_rfl) Try.func91 rfl rfl rfl (by simp only [fr0, qal, qam]; exact rfl) rfl fun s0 hs0 => ?_
 refine zag ?_
 refine zam 3 ?_
 refine zac ?_
 refine zaj rfl (jV 1 rfl (ev1 rfl) (fun s v h => by cases h <;> rfl) rfl) ?_
 refine zaj rfl (vb 2 rfl (ev1 rfl) rfl) ?_
 refine zaj rfl (zao 3 rfl zr22 rfl) ?_
 refine zab ?_
 refine zah ?_
 refine za rfl (qb rfl j8 (ev1 rfl) rfl rfl) ?_
 refine za rfl (qX rfl en (ec (ev1 rfl) (ec (ev1 rfl) (ec (ev1 rfl) en)))) ?_
 refine zaj rfl (zai [0, 2, 1, 3] [] [] rfl (ev1 rfl) (ec (ev1 rfl) (ec (ev1 rfl) en)) rfl rfl (UF L w hw h) rfl rfl rfl rfl rfl rfl) ?_
 refine zab ?_
 refine zah ?_
 refine za rfl (qq rfl kz (ev1 rfl) rfl rfl) ?_
 refine qc rfl (qG rfl kz (ev1 rfl) (ev1 rfl) rfl) ?_
 refine zab ?_
 refine qe ?_
 refine kc [0] (rs1 rfl (jB kz rfl rfl rfl)) rfl rfl ?_ ⟨rfl, trivial⟩
 rfl
end Go.Proofs.Ytofklkbfkoliiaa
namespace Go.Proofs.Ytofklkbfkoliiaa
set_option linter.unusedVariables false
set_option linter.unusedSimpArgs false
def wY : Nat → Nat → List Int
 | 0, _ => []
 | w + 1, n => ((n / 256 ^ w % 256 : Nat) : Int) :: wY w n
def jP (l : List Int) (acc : Nat) : Nat := l.foldl (fun a b => a * 256 + b.toNat) acc
theorem uI : ∀ w n, (wY w n).length = w
 | 0, _ => rfl
 | w + 1, n => by rw [wY, qaI, uI]
theorem zP (w : Nat) : 0 < 256 ^ w := Nat.pow_pos (by decide)
theorem GH : ∀ (w a v : Nat), wY w (a * 256 ^ w + v) = wY w v
 | 0, _, _ => rfl
 | w + 1, a, v => by
  have e : a * 256 ^ (w + 1) + v = (a * 256) * 256 ^ w + v := by rw [Nat.pow_succ, Nat.mul_assoc, Nat.mul_comm 256]
  rw [wY, wY, e, GH w (a * 256) v]
  congr 2
  rw [Nat.mul_comm, Nat.mul_add_div (zP w)]
  omega
theorem GI : ∀ (w n acc : Nat), jP (wY w n) acc = acc * 256 ^ w + n % 256 ^ w
 | 0, n, acc => by simp [wY, jP, Nat.mod_one]
 | w + 1, n, acc => by
  have h := GI w n (acc * 256 + n / 256 ^ w % 256)
  unfold jP at h ⊢
  rw [wY, List.foldl_cons, qaV, h, Nat.pow_succ, Nat.mod_mul, Nat.add_mul, Nat.mul_assoc, Nat.mul_comm 256, Nat.mul_comm (n / 256 ^ w % 256)]
  omega
theorem uJ : ∀ (l : List Int) (acc : Nat), jP l acc = acc * 256 ^ l.length + jP l 0
 | [], acc => by simp [jP]
 | x :: l, acc => by
  have h1 := uJ l (acc * 256 + x.toNat)
  have h2 := uJ l (0 * 256 + x.toNat)
  unfold jP at h1 h2 ⊢
  rw [List.foldl_cons, List.foldl_cons, h1, h2, qaI, Nat.pow_succ, Nat.add_mul, Nat.zero_mul, qal, Nat.mul_assoc, Nat.mul_comm 256]
  omega
theorem Jt : ∀ (l : List Int), isB l → jP l 0 < 256 ^ l.length
 | [], _ => by simp [jP]
 | x :: l, h => by
  have h1 := Jt l fun y hy => h y (qaX _ hy)
  have hx := h x (qaW ..)
  have h2 := uJ l (0 * 256 + x.toNat)
  unfold jP at h1 h2 ⊢
  rw [List.foldl_cons, h2, qaI, Nat.pow_succ, Nat.zero_mul, qal]
  have : x.toNat * 256 ^ l.length + 256 ^ l.length ≤ 256 ^ l.length * 256 := by
   rw [Nat.mul_comm (256 ^ l.length) 256, ← qa8]
   exact qa1 _ (by omega)
  omega
theorem QL : ∀ (l : List Int), isB l → wY l.length (jP l 0) = l
 | [], _ => rfl
 | x :: l, h => by
  have hl : isB l := fun y hy => h y (qaX _ hy)
  have h1 := QL l hl
  have hv := Jt l hl
  have hx := h x (qaW ..)
  have h2 : jP (x :: l) 0 = x.toNat * 256 ^ l.length + jP l 0 := by
   have h2 := uJ l (0 * 256 + x.toNat)
   unfold jP at h2 ⊢
   rw [List.foldl_cons, h2, Nat.zero_mul, qal]
  rw [h2, qaI, wY, GH, h1]
  congr 1
  rw [Nat.mul_comm, Nat.mul_add_div (zP _), Nat.div_eq_of_lt hv]
  omega
def kN (w : Nat) (n : Int) : List Int := wY w n.toNat
def tkN (S : Int) (w : Nat) : Tkr Int := fun b => if b.length < w then .err S else .ok (jP (b.take w) 0 : Int) (b.drop w)
theorem cdN (S : Int) (w : Nat) : Cd S (fun n : Int => 0 ≤ n ∧ n < (256 ^ w : Nat)) (kN w) (tkN S w) where
 fwd n r h := by
  have hl : (kN w n).length = w := uI _ _
  unfold tkN
  rw [if_neg (by rw [qap]; omega), List.take_append_of_le_length (by omega), qaK (by omega), List.drop_append_of_le_length (by omega), List.drop_of_length_le (by omega)]
  unfold kN
  rw [GI, Nat.zero_mul, qal, Nat.mod_eq_of_lt (by omega), Int.toNat_of_nonneg h.1]
  rfl
 bwd b n r hb h := by
  unfold tkN at h
  by_cases hw : b.length < w
  ·rw [if_pos hw] at h; cases h
  ·rw [if_neg hw] at h
   cases h
   have hb' : isB (b.take w) := fun x hx => hb x (List.mem_of_mem_take hx)
   have hl : (b.take w).length = w := by rw [qaN]; omega
   have h1 := QL _ hb'
   have h2 := Jt _ hb'
   rw [hl] at h1 h2
   refine ⟨?_, Int.natCast_nonneg _, by exact_mod_cast h2⟩
   unfold kN
   rw [qaV, h1, List.take_append_drop]
 sh n k h hk := by
  have hl : (kN w n).length = w := uI _ _
  unfold tkN
  rw [if_pos (by rw [qaN]; omega)]
end Go.Proofs.Ytofklkbfkoliiaa
namespace Go.Proofs.Ytofklkbfkoliiaa
set_option linter.unusedVariables false
set_option linter.unusedSimpArgs false
section
variable {α β : Type} {S : Int} {ok : α → Prop} {lay : α → List Int} {tk : Tkr α} {ok2 : α → β → Prop} {lay2 : α → β → List Int} {tk2 : α → Tkr β}
theorem Cd.dep (c : Cd S ok lay tk) (d : ∀ a, ok a → Cd S (ok2 a) (lay2 a) (tk2 a)) : Cd S (fun p : α × β => ok p.1 ∧ ok2 p.1 p.2) (fun p => lay p.1 ++ lay2 p.1 p.2) (fun b => (tk b).bind fun a r => (tk2 a r).bind fun x r => .ok (a, x) r) where
 fwd p r h := by
  rw [qaQ, c.fwd _ _ h.1]
  show (tk2 _ _).bind _ = _
  rw [(d _ h.1).fwd _ _ h.2]
  rfl
 bwd b p r hb h := by
  cases h1 : tk b with
  | err e => rw [h1] at h; cases h
  | ok a r1 =>
   rw [h1] at h
   have h : (tk2 a r1).bind (fun x r => Tk.ok (a, x) r) = .ok p r := h
   obtain ⟨e1, k1⟩ := c.bwd b a r1 hb h1
   cases h2 : tk2 a r1 with
   | err e => rw [h2] at h; cases h
   | ok x r2 =>
    rw [h2] at h
    cases h
    obtain ⟨e2, k2⟩ := (d a k1).bwd r1 x r (by rw [e1] at hb; exact (isB_app.1 hb).2) h2
    exact ⟨by rw [e1, e2, qaQ], k1, k2⟩
 sh p k h hk := by
  by_cases h1 : k < (lay p.1).length
  ·rw [List.take_append_of_le_length (by omega), c.sh _ _ h.1 h1]
   rfl
  ·rw [qap] at hk
   rw [List.take_append, qaK (by omega), c.fwd _ _ h.1]
   show (tk2 _ _).bind _ = _
   rw [(d _ h.1).sh _ _ h.2 (by omega)]
   rfl
theorem Cd.iff {ok' : α → Prop} (c : Cd S ok lay tk) (h : ∀ a, ok' a ↔ ok a) : Cd S ok' lay tk where
 fwd a r k := c.fwd a r ((h a).1 k)
 bwd b a r hb e := ⟨(c.bwd b a r hb e).1, (h a).2 (c.bwd b a r hb e).2⟩
 sh a k k1 hk := c.sh a k ((h a).1 k1) hk
end
theorem UH {i : I3} (h : uB i = true) : (1 ≤ i.t ∧ i.t ≤ 4611686018427387904) ∧ (1 ≤ i.s ∧ i.s ≤ 8) ∧ (1 ≤ i.q ∧ i.q ≤ 4611686018427387904) := by
 unfold uB W5 isSt at h
 simpa using h
def idB (i : I3) : List Int := kN 8 i.t ++ (kN 1 i.s ++ kN 8 i.q)
def Hs (S : Int) : Tkr I3 := fun b => ((tkN S 8 b).bind fun t r => ((tkN S 1 r).bind fun s r => (tkN S 8 r).bind fun q r => Tk.ok (s, q) r).bind fun p r => .ok (t, p) r).bind fun a r => .ok ⟨a.1, a.2.1, a.2.2⟩ r
def tkId (S C : Int) : Tkr I3 := fun b => (Hs S b).bind fun a r => if uB a then .ok a r else .err C
theorem VS (S C : Int) : Cd S (fun i => uB i = true) idB (tkId S C) :=
 ((((cdN S 8).seq ((cdN S 1).seq (cdN S 8))).map (ok2 := fun i : I3 => (0 ≤ i.t ∧ i.t < (256 ^ 8 : Nat)) ∧ (0 ≤ i.s ∧ i.s < (256 ^ 1 : Nat)) ∧ (0 ≤ i.q ∧ i.q < (256 ^ 8 : Nat))) (fun p => (⟨p.1, p.2.1, p.2.2⟩ : I3)) (fun i => (i.t, i.s, i.q)) (fun a h => ⟨rfl, h⟩) (fun x h => ⟨h, rfl⟩)).need C uB).iff fun i => by
  constructor
  ·intro h
   obtain ⟨h1, h2, h3⟩ := UH h
   have e8 : ((256 ^ 8 : Nat) : Int) = 18446744073709551616 := by decide
   have e1 : ((256 ^ 1 : Nat) : Int) = 256 := by decide
   refine ⟨⟨?_, ?_, ?_⟩, h⟩ <;> (first | rw [e8] | rw [e1]) <;> omega
  ·exact fun h => h.2
def u9 (x : Int) : List Int := kN 1 (x + 64)
def tkPl (S : Int) : Tkr Int := fun b => (tkN S 1 b).bind fun a r => .ok (a - 64) r
theorem xy (S : Int) : Cd S (fun x : Int => -64 ≤ x ∧ x < 192) u9 (tkPl S) :=
 (cdN S 1).map (fun a => a - 64) (fun x => x + 64) (fun a h => by
  have e1 : ((256 ^ 1 : Nat) : Int) = 256 := by decide
  rw [e1] at h
  exact ⟨by omega, by omega⟩) (fun x h => by
  have e1 : ((256 ^ 1 : Nat) : Int) = 256 := by decide
  rw [e1]
  exact ⟨by omega, by omega⟩)
def okC (c : C4) : Prop := (0 ≤ c.r ∧ c.r < (256 ^ 1 : Nat)) ∧ (0 ≤ c.g ∧ c.g < (256 ^ 1 : Nat)) ∧ (0 ≤ c.b ∧ c.b < (256 ^ 1 : Nat)) ∧ (0 ≤ c.a ∧ c.a < (256 ^ 1 : Nat))
def VT (c : C4) : List Int := kN 1 c.r ++ (kN 1 c.g ++ (kN 1 c.b ++ kN 1 c.a))
def UI (S : Int) : Tkr C4 := fun b => ((tkN S 1 b).bind fun t r => ((tkN S 1 r).bind fun s r => ((tkN S 1 r).bind fun p r => (tkN S 1 r).bind fun q r => Tk.ok (p, q) r).bind fun q r => Tk.ok (s, q) r).bind fun p r => .ok (t, p) r).bind fun a r => .ok ⟨a.1, a.2.1, a.2.2.1, a.2.2.2⟩ r
theorem cdCo (S : Int) : Cd S okC VT (UI S) :=
 ((cdN S 1).seq ((cdN S 1).seq ((cdN S 1).seq (cdN S 1)))).map (ok2 := okC) (fun p : Int × Int × Int × Int => (⟨p.1, p.2.1, p.2.2.1, p.2.2.2⟩ : C4)) (fun c => (c.r, c.g, c.b, c.a)) (fun a h => ⟨rfl, h⟩) (fun x h => ⟨h, rfl⟩)
def tkSi (S C : Int) : Tkr Int := fun b => (tkN S 1 b).bind fun a r => if siD a then .ok a r else .err C
theorem cdSi (S C : Int) : Cd S (fun n => siD n = true) (kN 1) (tkSi S C) :=
 ((cdN S 1).need C siD).iff fun n => by
  have e1 : ((256 ^ 1 : Nat) : Int) = 256 := by decide
  rw [e1]
  constructor
  ·intro h
   have h2 := h
   unfold siD at h2
   simp at h2
   exact ⟨by omega, h⟩
  ·exact fun h => h.2
def stBy (s : (Int × Int) × List C4) : List Int := (kN 1 s.1.1 ++ kN 1 s.1.2) ++ s.2.flatMap VT
def tkSt (S C : Int) : Tkr ((Int × Int) × List C4) := fun b => ((tkSi S C b).bind fun a r => (tkSi S C r).bind fun x r => Tk.ok (a, x) r).bind fun a r => (gC (UI S) (a.1 * a.2).toNat r).bind fun x r => .ok (a, x) r
theorem cdSt (S C : Int) : Cd S (fun s : (Int × Int) × List C4 => (siD s.1.1 = true ∧ siD s.1.2 = true) ∧ s.2.length = (s.1.1 * s.1.2).toNat ∧ ∀ c ∈ s.2, okC c) stBy (tkSt S C) :=
 ((cdSi S C).seq (cdSi S C)).dep (ok2 := fun (a : Int × Int) (l : List C4) => l.length = (a.1 * a.2).toNat ∧ ∀ c ∈ l, okC c) (lay2 := fun _ (l : List C4) => l.flatMap VT) (fun a _ => (cdCo S).rep (a.1 * a.2).toNat)
end Go.Proofs.Ytofklkbfkoliiaa
namespace Go.Proofs.Ytofklkbfkoliiaa
set_option linter.unusedVariables false
set_option linter.unusedSimpArgs false
def xz (x : Int) : Prop := -64 ≤ x ∧ x < 192
def isSz (x : Int) : Prop := 0 ≤ x ∧ x < (256 ^ 2 : Nat)
def cd12 (S C k : Int) : { tk : Tkr OpM // Cd S (fun o : OpM => o.kd = k ∧ uB o.id = true ∧ xz o.x ∧ xz o.y ∧ xz o.x2 ∧ xz o.y2 ∧ isSz o.sz ∧ okC o.co ∧ o.sw = 0 ∧ o.sh = 0 ∧ o.px = [] ∧ o.tg = zI3) (fun o => idB o.id ++ (u9 o.x ++ (u9 o.y ++ (u9 o.x2 ++ (u9 o.y2 ++ (kN 2 o.sz ++ VT o.co)))))) tk } :=
 ⟨_, ((VS S C).seq ((xy S).seq ((xy S).seq ((xy S).seq ((xy S).seq ((cdN S 2).seq (cdCo S))))))).map (fun p : I3 × Int × Int × Int × Int × Int × C4 => (⟨p.1, k, p.2.1, p.2.2.1, p.2.2.2.1, p.2.2.2.2.1, p.2.2.2.2.2.1, p.2.2.2.2.2.2, 0, 0, [], zI3⟩ : OpM)) (fun o => (o.id, o.x, o.y, o.x2, o.y2, o.sz, o.co))
  (fun a h => ⟨rfl, rfl, h.1, h.2.1, h.2.2.1, h.2.2.2.1, h.2.2.2.2.1, h.2.2.2.2.2.1, h.2.2.2.2.2.2, rfl, rfl, rfl, rfl⟩)
  (fun o h => by
   obtain ⟨id, kd, x, y, x2, y2, sz, co, sw, sh, px, tg⟩ := o
   obtain ⟨h1, h2, h3, h4, h5, h6, h7, h8, h9, h10, h11, h12⟩ := h
   dsimp only at h1 h2 h3 h4 h5 h6 h7 h8 h9 h10 h11 h12
   subst h1 h9 h10 h11 h12
   exact ⟨⟨h2, h3, h4, h5, h6, h7, h8⟩, rfl⟩)⟩
def cd34 (S C k : Int) : { tk : Tkr OpM // Cd S (fun o : OpM => o.kd = k ∧ uB o.id = true ∧ xz o.x ∧ xz o.y ∧ xz o.x2 ∧ xz o.y2 ∧ o.sz = 0 ∧ okC o.co ∧ o.sw = 0 ∧ o.sh = 0 ∧ o.px = [] ∧ o.tg = zI3) (fun o => idB o.id ++ (u9 o.x ++ (u9 o.y ++ (u9 o.x2 ++ (u9 o.y2 ++ VT o.co))))) tk } :=
 ⟨_, ((VS S C).seq ((xy S).seq ((xy S).seq ((xy S).seq ((xy S).seq (cdCo S)))))).map (fun p : I3 × Int × Int × Int × Int × C4 => (⟨p.1, k, p.2.1, p.2.2.1, p.2.2.2.1, p.2.2.2.2.1, 0, p.2.2.2.2.2, 0, 0, [], zI3⟩ : OpM)) (fun o => (o.id, o.x, o.y, o.x2, o.y2, o.co))
  (fun a h => ⟨rfl, rfl, h.1, h.2.1, h.2.2.1, h.2.2.2.1, h.2.2.2.2.1, rfl, h.2.2.2.2.2, rfl, rfl, rfl, rfl⟩)
  (fun o h => by
   obtain ⟨id, kd, x, y, x2, y2, sz, co, sw, sh, px, tg⟩ := o
   obtain ⟨h1, h2, h3, h4, h5, h6, h7, h8, h9, h10, h11, h12⟩ := h
   dsimp only at h1 h2 h3 h4 h5 h6 h7 h8 h9 h10 h11 h12
   subst h1 h7 h9 h10 h11 h12
   exact ⟨⟨h2, h3, h4, h5, h6, h8⟩, rfl⟩)⟩
def cd5 (S C k : Int) : { tk : Tkr OpM // Cd S (fun o : OpM => o.kd = k ∧ uB o.id = true ∧ xz o.x ∧ xz o.y ∧ o.x2 = 0 ∧ o.y2 = 0 ∧ isSz o.sz ∧ okC o.co ∧ o.sw = 0 ∧ o.sh = 0 ∧ o.px = [] ∧ o.tg = zI3) (fun o => idB o.id ++ (u9 o.x ++ (u9 o.y ++ (kN 2 o.sz ++ VT o.co)))) tk } :=
 ⟨_, ((VS S C).seq ((xy S).seq ((xy S).seq ((cdN S 2).seq (cdCo S))))).map (fun p : I3 × Int × Int × Int × C4 => (⟨p.1, k, p.2.1, p.2.2.1, 0, 0, p.2.2.2.1, p.2.2.2.2, 0, 0, [], zI3⟩ : OpM)) (fun o => (o.id, o.x, o.y, o.sz, o.co))
  (fun a h => ⟨rfl, rfl, h.1, h.2.1, h.2.2.1, rfl, rfl, h.2.2.2.1, h.2.2.2.2, rfl, rfl, rfl, rfl⟩)
  (fun o h => by
   obtain ⟨id, kd, x, y, x2, y2, sz, co, sw, sh, px, tg⟩ := o
   obtain ⟨h1, h2, h3, h4, h5, h6, h7, h8, h9, h10, h11, h12⟩ := h
   dsimp only at h1 h2 h3 h4 h5 h6 h7 h8 h9 h10 h11 h12
   subst h1 h5 h6 h9 h10 h11 h12
   exact ⟨⟨h2, h3, h4, h7, h8⟩, rfl⟩)⟩
def cd6 (S C k : Int) : { tk : Tkr OpM // Cd S (fun o : OpM => o.kd = k ∧ uB o.id = true ∧ xz o.x ∧ xz o.y ∧ o.x2 = 0 ∧ o.y2 = 0 ∧ o.sz = 0 ∧ o.co = zC4 ∧ ((siD o.sw = true ∧ siD o.sh = true) ∧ o.px.length = (o.sw * o.sh).toNat ∧ ∀ c ∈ o.px, okC c) ∧ o.tg = zI3) (fun o => idB o.id ++ (u9 o.x ++ (u9 o.y ++ stBy ((o.sw, o.sh), o.px)))) tk } :=
 ⟨_, ((VS S C).seq ((xy S).seq ((xy S).seq (cdSt S C)))).map (fun p : I3 × Int × Int × (Int × Int) × List C4 => (⟨p.1, k, p.2.1, p.2.2.1, 0, 0, 0, zC4, p.2.2.2.1.1, p.2.2.2.1.2, p.2.2.2.2, zI3⟩ : OpM)) (fun o => (o.id, o.x, o.y, (o.sw, o.sh), o.px))
  (fun a h => ⟨rfl, rfl, h.1, h.2.1, h.2.2.1, rfl, rfl, rfl, rfl, h.2.2.2, rfl⟩)
  (fun o h => by
   obtain ⟨id, kd, x, y, x2, y2, sz, co, sw, sh, px, tg⟩ := o
   obtain ⟨h1, h2, h3, h4, h5, h6, h7, h8, h9, h10⟩ := h
   dsimp only at h1 h2 h3 h4 h5 h6 h7 h8 h9 h10
   subst h1 h5 h6 h7 h8 h10
   exact ⟨⟨h2, h3, h4, h9⟩, rfl⟩)⟩
def cd78 (S C k : Int) : { tk : Tkr OpM // Cd S (fun o : OpM => o.kd = k ∧ uB o.id = true ∧ o.x = 0 ∧ o.y = 0 ∧ o.x2 = 0 ∧ o.y2 = 0 ∧ o.sz = 0 ∧ o.co = zC4 ∧ o.sw = 0 ∧ o.sh = 0 ∧ o.px = [] ∧ uB o.tg = true) (fun o => idB o.id ++ idB o.tg) tk } :=
 ⟨_, ((VS S C).seq (VS S C)).map (fun p : I3 × I3 => (⟨p.1, k, 0, 0, 0, 0, 0, zC4, 0, 0, [], p.2⟩ : OpM)) (fun o => (o.id, o.tg))
  (fun a h => ⟨rfl, rfl, h.1, rfl, rfl, rfl, rfl, rfl, rfl, rfl, rfl, rfl, h.2⟩)
  (fun o h => by
   obtain ⟨id, kd, x, y, x2, y2, sz, co, sw, sh, px, tg⟩ := o
   obtain ⟨h1, h2, h3, h4, h5, h6, h7, h8, h9, h10, h11, h12⟩ := h
   dsimp only at h1 h2 h3 h4 h5 h6 h7 h8 h9 h10 h11 h12
   subst h1 h3 h4 h5 h6 h7 h8 h9 h10 h11
   exact ⟨⟨h2, h12⟩, rfl⟩)⟩
end Go.Proofs.Ytofklkbfkoliiaa
namespace Go.Proofs.Ytofklkbfkoliiaa
set_option linter.unusedVariables false
set_option linter.unusedSimpArgs false
def VU (C : Int) (tk : Tkr OpM) : Tkr OpM := fun b => (tk b).bind fun a r => if opB a then .ok a r else .err C
def tkK (S C k : Int) : Tkr OpM :=
 if k = 1 ∨ k = 2 then VU C (cd12 S C k).1 else if k = 3 ∨ k = 4 then VU C (cd34 S C k).1 else if k = 5 then VU C (cd5 S C k).1 else if k = 6 then VU C (cd6 S C k).1 else VU C (cd78 S C k).1
def isK (k : Int) : Bool := decide (1 ≤ k) && decide (k ≤ 8)
def UJ (S C : Int) : Tkr OpM := fun b => (((tkN S 1 b).bind fun a r => if isK a then .ok a r else .err C).bind fun a r => (tkK S C a r).bind fun x r => Tk.ok (a, x) r).bind fun a r => .ok a.2 r
end Go.Proofs.Ytofklkbfkoliiaa
namespace Go.Proofs.Ytofklkbfkoliiaa
set_option linter.unusedVariables false
set_option linter.unusedSimpArgs false
def isM (n : Int) : Bool := decide (n ≤ 64)
def UK (S C : Int) : Tkr (List OpM) := fun b => (((tkN S 1 b).bind fun a r => if isM a then .ok a r else .err C).bind fun a r => (gC (UJ S C) a.toNat r).bind fun x r => Tk.ok (a, x) r).bind fun a r => .ok a.2 r
def vY (l : List Int) : List Int := l.flatMap (kN 8)
theorem AG (S : Int) : Cd S (fun l : List Int => l.length = 8 ∧ ∀ n ∈ l, 0 ≤ n ∧ n < (256 ^ 8 : Nat)) vY (gC (tkN S 8) 8) := (cdN S 8).rep 8
end Go.Proofs.Ytofklkbfkoliiaa
namespace Go.Proofs.Ytofklkbfkoliiaa
set_option linter.unusedVariables false
set_option linter.unusedSimpArgs false
section
variable {α : Type} {S : Int} {ok : α → Prop} {lay : α → List Int} {tk : Tkr α}
theorem Cd.back (c : Cd S ok lay tk) {b r : List Int} {a : α} (hb : isB b) (h : tk b = .ok a r) : r.length ≤ b.length ∧ b.take (b.length - r.length) = lay a ∧ b.length - r.length = (lay a).length ∧ ok a := by
 obtain ⟨e, k⟩ := c.bwd b a r hb h
 have hl : b.length = (lay a).length + r.length := by rw [e, qap]
 refine ⟨by omega, ?_, by omega, k⟩
 rw [show b.length - r.length = (lay a).length by omega, e, List.take_append_of_le_length (qaE _), qaK (qaE _)]
end
theorem GJ : ∀ w n, isB (wY w n)
 | 0, _ => fun x h => by cases h
 | w + 1, n => fun x h => by
  rw [wY] at h
  rcases List.mem_cons.1 h with rfl | h
  ·omega
  ·exact GJ w n x h
theorem vZ (w : Nat) (n : Int) : isB (kN w n) := GJ _ _
end Go.Proofs.Ytofklkbfkoliiaa
namespace Go.Proofs.Ytofklkbfkoliiaa
set_option linter.unusedVariables false
set_option linter.unusedSimpArgs false
def mkV (l : List Int) : Vec := fun i => if 1 ≤ i ∧ i ≤ 8 then (l.getD (i - 1) 0).toNat else 0
def gD (v : Vec) : List Int := [(v 1 : Int), v 2, v 3, v 4, v 5, v 6, v 7, v 8]
def vC (v : Vec) : List Int := vY (gD v)
def GK (S C : Int) : Tkr Vec := fun b => ((gC (tkN S 8) 8 b).bind fun a r => Tk.ok (mkV a) r).bind fun a r => if vB a then .ok a r else .err C
theorem UL {v : Vec} (h0 : v 0 = 0) (h9 : ∀ i, 9 ≤ i → v i = 0) : mkV (gD v) = v := by
 funext i
 unfold mkV
 by_cases h : 1 ≤ i ∧ i ≤ 8
 ·rw [if_pos h]
  have : i = 1 ∨ i = 2 ∨ i = 3 ∨ i = 4 ∨ i = 5 ∨ i = 6 ∨ i = 7 ∨ i = 8 := by omega
  rcases this with rfl | rfl | rfl | rfl | rfl | rfl | rfl | rfl <;> rfl
 ·rw [if_neg h]
  by_cases e : i = 0
  ·rw [e, h0]
  ·rw [h9 i (by omega)]
theorem UM : ∀ {l : List Int}, l.length = 8 → (∀ n ∈ l, 0 ≤ n) → gD (mkV l) = l
 | [a, b, c, d, e, f, g, h], _, hn => by
  have k : ∀ n ∈ [a, b, c, d, e, f, g, h], ((n.toNat : Nat) : Int) = n := fun n hm => Int.toNat_of_nonneg (hn n hm)
  show [((a.toNat : Nat) : Int), b.toNat, c.toNat, d.toNat, e.toNat, f.toNat, g.toNat, h.toNat] = _
  rw [k a (by simp), k b (by simp), k c (by simp), k d (by simp), k e (by simp), k f (by simp), k g (by simp), k h (by simp)]
theorem Ht (S C : Int) : Cd S (fun v : Vec => vB v = true ∧ ∀ i, 9 ≤ i → v i = 0) vC (GK S C) :=
 (((AG S).map (ok2 := fun v : Vec => v 0 = 0 ∧ (∀ i, 9 ≤ i → v i = 0) ∧ ∀ i, i < 9 → (v i : Int) < (256 ^ 8 : Nat)) mkV gD
  (fun l h => ⟨UM h.1 fun n hn => (h.2 n hn).1, rfl, fun i hi => if_neg (by omega), fun i hi => by
   unfold mkV
   by_cases e : 1 ≤ i ∧ i ≤ 8
   ·rw [if_pos e]
    have hl : i - 1 < l.length := by rw [h.1]; omega
    rw [qaJ, qak hl]
    have := h.2 _ (qa7 hl)
    show ((l[i - 1].toNat : Nat) : Int) < _
    rw [Int.toNat_of_nonneg this.1]
    exact this.2
   ·rw [if_neg e]
    decide⟩)
  (fun v h => ⟨⟨rfl, fun n hn => by
   have e : ∃ i, i < 9 ∧ n = (v i : Int) := by
    unfold gD at hn
    simp only [List.mem_cons, List.not_mem_nil, or_false] at hn
    rcases hn with e | e | e | e | e | e | e | e
    ·exact ⟨1, by omega, e⟩
    ·exact ⟨2, by omega, e⟩
    ·exact ⟨3, by omega, e⟩
    ·exact ⟨4, by omega, e⟩
    ·exact ⟨5, by omega, e⟩
    ·exact ⟨6, by omega, e⟩
    ·exact ⟨7, by omega, e⟩
    ·exact ⟨8, by omega, e⟩
   obtain ⟨i, hi, rfl⟩ := e
   exact ⟨Int.natCast_nonneg _, h.2.2 i hi⟩⟩, UL h.1 h.2.1⟩)).need C vB).iff fun v => by
  constructor
  ·intro h
   obtain ⟨a, b⟩ := vB_iff.1 h.1
   refine ⟨⟨a, h.2, fun i hi => ?_⟩, h.1⟩
   have e8 : ((256 ^ 8 : Nat) : Int) = 18446744073709551616 := by decide
   have : v i ≤ 4611686018427387904 := b i hi
   rw [e8]
   omega
  ·exact fun h => ⟨h.2, h.1.2.1⟩
end Go.Proofs.Ytofklkbfkoliiaa
namespace Go.Proofs.Ytofklkbfkoliiaa
set_option linter.unusedVariables false
set_option linter.unusedSimpArgs false
open Go.RowKit
section
variable {α β γ : Type}
theorem Tk.bind_bind (t : Tk α) (f : α → List Int → Tk β) (g : β → List Int → Tk γ) : (t.bind f).bind g = t.bind fun a r => (f a r).bind g := by cases t <;> rfl
theorem Tk.ok_bind (a : α) (r : List Int) (f : α → List Int → Tk β) : (Tk.ok a r).bind f = f a r := rfl
theorem Tk.err_bind (e : Int) (f : α → List Int → Tk β) : (Tk.err e : Tk α).bind f = .err e := rfl
theorem Tk.if_bind (p : Bool) (s t : Tk α) (f : α → List Int → Tk β) : (if p = true then s else t).bind f = if p = true then s.bind f else t.bind f := by split <;> rfl
theorem Tk.bind_congr {t : Tk α} {f g : α → List Int → Tk β} (h : ∀ a r, f a r = g a r) : t.bind f = t.bind g := by rw [show f = g from funext fun a => funext fun r => h a r]
theorem Tk.bind_ok {t : Tk α} {f : α → List Int → Tk β} {x : β} {r : List Int} (h : t.bind f = .ok x r) : ∃ a q, t = .ok a q ∧ f a q = .ok x r := by
 cases t with
 | ok a q => exact ⟨a, q, rfl, h⟩
 | err e => cases h
theorem Tk.bind_err {t : Tk α} {f : α → List Int → Tk β} {e : Int} (h : t.bind f = .err e) : t = .err e ∨ ∃ a q, t = .ok a q ∧ f a q = .err e := by
 cases t with
 | ok a q => exact .inr ⟨a, q, rfl, h⟩
 | err e' => cases h; exact .inl rfl
end
def okL (l : List Int) : Prop := isB l ∧ l.length ≤ 40000
theorem AH {α : Type} {S : Int} {ok : α → Prop} {lay : α → List Int} {tk : Tkr α} (c : Cd S ok lay tk) {l r : List Int} {a : α} (h : okL l) (e : tk l = .ok a r) : okL r := by
 obtain ⟨h1, _⟩ := c.bwd l a r h.1 e
 refine ⟨(isB_app.1 (h1 ▸ h.1)).2, ?_⟩
 have := h.2
 rw [h1, qap] at this
 omega
abbrev tN := tkN 110
abbrev tId : Tkr I3 := tkId 110 290
abbrev tCo : Tkr C4 := UI 110
abbrev tSi : Tkr Int := tkSi 110 290
abbrev tSt : Tkr ((Int × Int) × List C4) := tkSt 110 290
abbrev tPl : Tkr Int := tkPl 110
abbrev tOp : Tkr OpM := UJ 110 290
abbrev tRow : Tkr (List OpM) := UK 110 290
abbrev vD : Tkr Vec := GK 110 290
theorem QM {w : Nat} {l r : List Int} {n : Int} (h : okL l) (e : tN w l = .ok n r) : w ≤ l.length ∧ r = l.drop w ∧ n = (jP (l.take w) 0 : Int) ∧ (0 ≤ n ∧ n < (256 ^ w : Nat)) ∧ okL r := by
 refine ⟨?_, ?_, ?_, ((cdN 110 w).bwd l n r h.1 e).2, AH (cdN 110 w) h e⟩
 all_goals
  unfold tN tkN at e
  split at e
  ·cases e
  ·cases e
   first | omega | rfl
theorem UN {w : Nat} {l : List Int} {e : Int} (h : tN w l = .err e) : l.length < w ∧ e = 110 := by
 unfold tN tkN at h
 split at h
 ·cases h
  exact ⟨by assumption, rfl⟩
 ·cases h
def Ju : Nat → List Nat
 | 1 => [0, 1, 2, 3, 4, 5]
 | 2 => [0, 1, 2, 3, 4, 5]
 | 3 => [0, 1, 2, 3, 5]
 | 4 => [0, 1, 2, 3, 5]
 | 5 => [0, 1, 4, 5]
 | 6 => [0, 1, 6]
 | 7 => [7]
 | 8 => [7]
 | _ => []
def tkF (f : Nat) (o : OpM) : Tkr OpM := fun b => match f with
 | 0 => (tPl b).bind fun a r => .ok { o with x := a } r
 | 1 => (tPl b).bind fun a r => .ok { o with y := a } r
 | 2 => (tPl b).bind fun a r => .ok { o with x2 := a } r
 | 3 => (tPl b).bind fun a r => .ok { o with y2 := a } r
 | 4 => (tN 2 b).bind fun a r => .ok { o with sz := a } r
 | 5 => (tCo b).bind fun a r => .ok { o with co := a } r
 | 6 => (tSt b).bind fun a r => .ok { o with sw := a.1.1, sh := a.1.2, px := a.2 } r
 | _ => (tId b).bind fun a r => .ok { o with tg := a } r
def UO : List Nat → OpM → Tkr OpM
 | [], o, b => if opB o then .ok o b else .err 290
 | f :: fs, o, b => (tkF f o b).bind fun o' r => UO fs o' r
def mk0 (k : Int) (i : I3) : OpM := ⟨i, k, 0, 0, 0, 0, 0, zC4, 0, 0, [], zI3⟩
theorem AI (b : List Int) : tOp b = (tN 1 b).bind fun k r => if isK k = true then (tId r).bind fun i r => UO (Ju k.toNat) (mk0 k i) r else .err 290 := by
 unfold tOp UJ
 simp only [Tk.bind_bind, Tk.if_bind, Tk.ok_bind, Tk.err_bind]
 refine Tk.bind_congr fun k r => ?_
 by_cases hk : isK k = true
 ·rw [if_pos hk, if_pos hk]
  have h8 : 1 ≤ k ∧ k ≤ 8 := by unfold isK at hk; simpa using hk
  have : k = 1 ∨ k = 2 ∨ k = 3 ∨ k = 4 ∨ k = 5 ∨ k = 6 ∨ k = 7 ∨ k = 8 := by omega
  rcases this with rfl | rfl | rfl | rfl | rfl | rfl | rfl | rfl <;>
   simp [tkK, VU, cd12, cd34, cd5, cd6, cd78, Ju, UO, tkF, mk0, Tk.bind_bind, Tk.ok_bind, Tk.if_bind, Tk.err_bind]
 ·rw [if_neg hk, if_neg hk]
theorem Zr (b : List Int) : tRow b = (tN 1 b).bind fun a r => if isM a = true then gC tOp a.toNat r else .err 290 := by
 unfold tRow UK
 simp only [Tk.bind_bind, Tk.if_bind, Tk.ok_bind, Tk.err_bind]
 refine Tk.bind_congr fun a r => ?_
 by_cases h : isM a = true
 ·rw [if_pos h, if_pos h]
  cases gC (UJ 110 290) a.toNat r <;> rfl
 ·rw [if_neg h, if_neg h]
def wt : Nat → Vec → Tkr Vec
 | 0, v, b => if vB v then .ok v b else .err 290
 | n + 1, v, b => (tN 8 b).bind fun x r => wt n (upV v (8 - n) x.toNat) r
theorem AJ (x1 x2 x3 x4 x5 x6 x7 x8 : Int) : mkV [x1, x2, x3, x4, x5, x6, x7, x8] = upV (upV (upV (upV (upV (upV (upV (upV z9 (8 - 7) x1.toNat) (8 - 6) x2.toNat) (8 - 5) x3.toNat) (8 - 4) x4.toNat) (8 - 3) x5.toNat) (8 - 2) x6.toNat) (8 - 1) x7.toNat) (8 - 0) x8.toNat := by
 funext i
 unfold mkV upV
 have : i = 0 ∨ i = 1 ∨ i = 2 ∨ i = 3 ∨ i = 4 ∨ i = 5 ∨ i = 6 ∨ i = 7 ∨ i = 8 ∨ 9 ≤ i := by omega
 rcases this with rfl | rfl | rfl | rfl | rfl | rfl | rfl | rfl | rfl | h
 all_goals first | rfl | skip
 rw [if_neg (by omega), if_neg (by omega), if_neg (by omega), if_neg (by omega), if_neg (by omega), if_neg (by omega), if_neg (by omega), if_neg (by omega), if_neg (by omega)]
 rfl
theorem Jv (b : List Int) : vD b = wt 8 z9 b := by
 unfold vD GK
 simp only [gC, wt, Tk.bind_bind, Tk.ok_bind]
 refine Tk.bind_congr fun x1 r => Tk.bind_congr fun x2 r => Tk.bind_congr fun x3 r => Tk.bind_congr fun x4 r => Tk.bind_congr fun x5 r => Tk.bind_congr fun x6 r => Tk.bind_congr fun x7 r => Tk.bind_congr fun x8 r => ?_
 rw [AJ]
theorem AK (b : List Int) : tId b = (tN 8 b).bind fun t r => (tN 1 r).bind fun s r => (tN 8 r).bind fun q r => if uB ⟨t, s, q⟩ = true then .ok ⟨t, s, q⟩ r else .err 290 := by
 unfold tId tkId Hs
 simp only [Tk.bind_bind, Tk.ok_bind]
theorem AL (b : List Int) : tCo b = (tN 1 b).bind fun x r => (tN 1 r).bind fun y r => (tN 1 r).bind fun z r => (tN 1 r).bind fun w r => .ok ⟨x, y, z, w⟩ r := by
 unfold tCo UI
 simp only [Tk.bind_bind, Tk.ok_bind]
theorem AM (b : List Int) : tSt b = (tSi b).bind fun w r => (tSi r).bind fun h r => (gC tCo (w * h).toNat r).bind fun l r => .ok ((w, h), l) r := by
 unfold tSt tkSt
 simp only [Tk.bind_bind, Tk.ok_bind]
theorem Zs {a b : Nat} (ha : a < 72057594037927936) (hb : b < 256) : Vs (a : Int) (b : Int) = ((a * 256 + b : Nat) : Int) := by
 have h := H3 (n := a) (b := b) (j := 8) (by omega) (by omega)
 unfold Vs
 rw [IntWalk.u64_in _ (by omega), IntWalk.u64_in _ (by omega), h]
 omega
theorem GL : ∀ (l : List Int) (a : Nat), isB l → (a + 1) * 256 ^ l.length ≤ 18446744073709551616 → l.foldl Vs (a : Int) = (jP l a : Int)
 | [], a, _, _ => rfl
 | x :: l, a, h, hb => by
  have hx := h x (qaW ..)
  have hl : isB l := fun y hy => h y (qaX _ hy)
  have hp : 0 < 256 ^ l.length := zP _
  rw [qaI, Nat.pow_succ] at hb
  have ha : a < 72057594037927936 := by
   have : (a + 1) * 256 ≤ (a + 1) * (256 ^ l.length * 256) := Nat.mul_le_mul_left _ (by omega)
   omega
  obtain ⟨m, rfl⟩ : ∃ m : Nat, x = m := ⟨x.toNat, by omega⟩
  rw [List.foldl_cons, Zs ha (by omega), GL l (a * 256 + m) hl ?_]
  ·unfold jP
   rw [List.foldl_cons, qaV]
  ·have : (a * 256 + m + 1) * 256 ^ l.length ≤ ((a + 1) * 256) * 256 ^ l.length := qa1 _ (by omega)
   rw [Nat.mul_assoc (a + 1), Nat.mul_comm 256] at this
   omega
theorem xa {w : Nat} {l : List Int} (h : isB l) (hw : w ≤ 8) (hl : w ≤ l.length) : ky w l = (jP (l.take w) 0 : Int) := by
 unfold ky
 refine GL (l.take w) 0 (fun x hx => h x (List.mem_of_mem_take hx)) ?_
 rw [qaN, Nat.min_eq_left hl, qal, Nat.one_mul]
 exact qaF (Nat.pow_le_pow_right (n := 256) (by decide) hw) (by decide)
theorem AN {n : Int} (hn : 0 ≤ n) (w : Nat) : Yw n w = kN w n := by
 obtain ⟨m, rfl⟩ : ∃ m : Nat, n = m := ⟨n.toNat, by omega⟩
 unfold kN
 rw [qaV]
 induction w with
 | zero => rfl
 | succ w ih => rw [Vu, ih]; rfl
theorem GM {w : Nat} {n : Int} (hw : 1 ≤ w ∧ w ≤ 8) (hn : 0 ≤ n) : vk w n = kN w n := by rw [Vv n w hw, AN hn]
theorem UP {w : Nat} {n : Int} (hn : 0 ≤ n ∧ n < (256 ^ w : Nat)) : KF w n = true := by
 have e : n / 2 ^ (8 * w) = 0 := Int.ediv_eq_zero_of_lt hn.1 (by
  rw [Int.pow_mul]
  have h2 := hn.2
  rw [Int.natCast_pow] at h2
  exact h2)
 unfold KF
 rw [e]
 simp
theorem jQ (w : Nat) (n : Int) : (kN w n).length = w := uI _ _
theorem AO {w : Nat} {l r : List Int} {n : Int} (h : okL l) (hw : w ≤ 8) (e : tN w l = .ok n r) : w ≤ l.length ∧ r = l.drop w ∧ n = ky w l ∧ (0 ≤ n ∧ n < (256 ^ w : Nat)) ∧ okL r := by
 obtain ⟨h1, h2, h3, h4, h5⟩ := QM h e
 exact ⟨h1, h2, by rw [h3, xa h.1 hw h1], h4, h5⟩
theorem Hu {k : Nat} {x : Mem} : (qax k Mem.gone ++ [x])[k]? = some x := by
 rw [qaH (by rw [qaG]; omega), qaG, Nat.sub_self]
 rfl
theorem AP {k : Nat} {x : Mem} : (qax k Mem.gone ++ [x]).length = k + 1 := by
 rw [qap, qaG]
 rfl
theorem AQ {k : Nat} {x : Mem} : (qax k Mem.gone ++ [x]).set k .gone = qax (k + 1) Mem.gone := by
 rw [List.set_append_right _ _ (by rw [qaG]; omega), qaG, Nat.sub_self, List.replicate_succ']
 rfl
abbrev fmY (k : Nat) (l : List Int) : Blk := .fam (qax k .gone ++ [.arr 5 1 l.length (l.flatMap uc8)])
theorem fm_eq {k m m' : Nat} {x : Mem} {L L' : List Value} (h : m = m') (h' : L = L') : some (Blk.fam ((qax k Mem.gone ++ [x]).set k .gone ++ [.arr 5 1 m L])) = some (Blk.fam (qax (k + 1) .gone ++ [.arr 5 1 m' L'])) := by
 rw [AQ, h, h']
theorem AR {k : Nat} {x : Mem} {l l2 : List Int} : some (Blk.fam ((qax k Mem.gone ++ [x]).set k .gone ++ [.arr 5 1 (l.length + l2.length) (l.flatMap uc8 ++ l2.flatMap uc8)])) = some (fmY (k + 1) (l ++ l2)) := fm_eq (by rw [qap]) (by rw [List.flatMap_append])
theorem Hv {w : Nat} {l r : List Int} {n : Int} (h : okL l) (e : tN w l = .ok n r) : okL r := (QM h e).2.2.2.2
theorem Zt {l : List Int} (h : okL l) : l.length ≤ 2000000 := qaF h.2 (by decide)
theorem Zu {j : Nat} (hj : j < 8) {u v : Vec} {l r : List Int} (h : wt (8 - j) u l = .ok v r) : ∃ n q, tN 8 l = .ok n q ∧ wt (8 - (j + 1)) (upV u (j + 1) n.toNat) q = .ok v r := by
 rw [show 8 - j = (8 - (j + 1)) + 1 by omega] at h
 obtain ⟨n, q, h1, h2⟩ := Tk.bind_ok h
 rw [show 8 - (8 - (j + 1)) = j + 1 by omega] at h2
 exact ⟨n, q, h1, h2⟩
theorem Zv {j : Nat} (hj : j < 8) {u : Vec} {l : List Int} {e : Int} (h : wt (8 - j) u l = .err e) : tN 8 l = .err e ∨ ∃ n q, tN 8 l = .ok n q ∧ wt (8 - (j + 1)) (upV u (j + 1) n.toNat) q = .err e := by
 rw [show 8 - j = (8 - (j + 1)) + 1 by omega] at h
 rcases Tk.bind_err h with h1 | ⟨n, q, h1, h2⟩
 ·exact .inl h1
 ·rw [show 8 - (8 - (j + 1)) = j + 1 by omega] at h2
  exact .inr ⟨n, q, h1, h2⟩
theorem AS {j : Nat} (hj : ¬ j < 8) {u v : Vec} {l r : List Int} (h : wt (8 - j) u l = .ok v r) : vB v = true ∧ u = v ∧ l = r := by
 rw [show 8 - j = 0 by omega] at h
 unfold wt at h
 split at h
 ·cases h
  exact ⟨by assumption, rfl, rfl⟩
 ·cases h
theorem Zw {j : Nat} (hj : ¬ j < 8) {u : Vec} {l : List Int} {e : Int} (h : wt (8 - j) u l = .err e) : vB u = false ∧ e = 290 := by
 rw [show 8 - j = 0 by omega] at h
 unfold wt at h
 split at h
 ·cases h
 ·cases h
  exact ⟨by simpa using ‹¬ vB u = true›, rfl⟩
def Er {α : Type} (t : Tk α) : Prop := ∀ e, t = .err e → e = 110 ∨ e = 290
theorem Er.ok {α : Type} {a : α} {r : List Int} : Er (Tk.ok a r) := fun e h => by cases h
theorem Er.e1 {α : Type} : Er (Tk.err 110 : Tk α) := fun e h => by cases h; exact .inl rfl
theorem Er.e2 {α : Type} : Er (Tk.err 290 : Tk α) := fun e h => by cases h; exact .inr rfl
theorem Er.bind {α β : Type} {t : Tk α} {f : α → List Int → Tk β} (h : Er t) (k : ∀ a r, Er (f a r)) : Er (t.bind f) := fun e he => by
 rcases Tk.bind_err he with h1 | ⟨a, q, _, h2⟩
 ·exact h e h1
 ·exact k a q e h2
theorem Er.ite {α : Type} {p : Bool} {s t : Tk α} (h : Er s) (k : Er t) : Er (if p = true then s else t) := by
 split
 ·exact h
 ·exact k
theorem Er.N (w : Nat) (b : List Int) : Er (tN w b) := fun e h => .inl (UN h).2
theorem Er.rep {α : Type} {tk : Tkr α} (h : ∀ b, Er (tk b)) : ∀ n b, Er (gC tk n b)
 | 0, b => Er.ok
 | n + 1, b => Er.bind (h b) fun a r => Er.bind (Er.rep h n r) fun l r => Er.ok
theorem Er.I (b : List Int) : Er (tId b) := by
 rw [AK]
 exact Er.bind (Er.N 8 b) fun _ r => Er.bind (Er.N 1 r) fun _ r => Er.bind (Er.N 8 r) fun _ r => Er.ite Er.ok Er.e2
theorem Er.C (b : List Int) : Er (tCo b) := by
 rw [AL]
 exact Er.bind (Er.N 1 b) fun _ r => Er.bind (Er.N 1 r) fun _ r => Er.bind (Er.N 1 r) fun _ r => Er.bind (Er.N 1 r) fun _ r => Er.ok
theorem Er.S (b : List Int) : Er (tSt b) := by
 rw [AM]
 exact Er.bind (Er.bind (Er.N 1 b) fun _ r => Er.ite Er.ok Er.e2) fun _ r => Er.bind (Er.bind (Er.N 1 r) fun _ r => Er.ite Er.ok Er.e2) fun _ r => Er.bind (Er.rep Er.C _ r) fun _ r => Er.ok
theorem Er.V (b : List Int) : Er (vD b) := by
 rw [Jv]
 have go : ∀ n v b, Er (wt n v b) := fun n => by
  induction n with
  | zero => exact fun v b => Er.ite Er.ok Er.e2
  | succ n ih => exact fun v b => Er.bind (Er.N 8 b) fun x r => ih _ r
 exact go 8 z9 b
theorem Er.F (f : Nat) (o : OpM) (b : List Int) : Er (tkF f o b) := by
 unfold tkF
 split
 ·exact Er.bind (Er.bind (Er.N 1 b) fun _ _ => Er.ok) fun _ _ => Er.ok
 ·exact Er.bind (Er.bind (Er.N 1 b) fun _ _ => Er.ok) fun _ _ => Er.ok
 ·exact Er.bind (Er.bind (Er.N 1 b) fun _ _ => Er.ok) fun _ _ => Er.ok
 ·exact Er.bind (Er.bind (Er.N 1 b) fun _ _ => Er.ok) fun _ _ => Er.ok
 ·exact Er.bind (Er.N 2 b) fun _ _ => Er.ok
 ·exact Er.bind (Er.C b) fun _ _ => Er.ok
 ·exact Er.bind (Er.S b) fun _ _ => Er.ok
 ·exact Er.bind (Er.I b) fun _ _ => Er.ok
theorem Er.Fs : ∀ fs o b, Er (UO fs o b)
 | [], o, b => Er.ite Er.ok Er.e2
 | f :: fs, o, b => Er.bind (Er.F f o b) fun o' r => Er.Fs fs o' r
theorem Er.O (b : List Int) : Er (tOp b) := by
 rw [AI]
 exact Er.bind (Er.N 1 b) fun k r => Er.ite (Er.bind (Er.I r) fun i r => Er.Fs _ _ r) Er.e2
theorem Er.R (b : List Int) : Er (tRow b) := by
 rw [Zr]
 exact Er.bind (Er.N 1 b) fun k r => Er.ite (Er.rep Er.O _ r) Er.e2
end Go.Proofs.Ytofklkbfkoliiaa
namespace Go.Proofs.Ytofklkbfkoliiaa
set_option linter.unusedVariables false
set_option linter.unusedSimpArgs false
open Go.RowKit
theorem AT (w : Nat) (n : Int) (hw : 1 ≤ w ∧ w ≤ 8) (hn : 0 ≤ n ∧ n < (256 ^ w : Nat)) : DFun Try.prog 71 [.slf 1 0 [], .val (.int .i64 (w : Int)), .val (.int .u64 n)] [] (.tup [.slf 1 (kN w n).length ((kN w n).flatMap uc8), .val (.int .i64 0)]) [] := by
 have h := Za [] w n (by decide) hw (UP hn)
 rw [qaw, GM hw hn.1] at h
 exact h
theorem AU (o : OpM) (k : Nat) (l : List Int) (w : Nat) (n : Int) (hw : 1 ≤ w ∧ w ≤ 8) (hn : 0 ≤ n ∧ n < (256 ^ w : Nat)) (hl : l.length ≤ 50000) : DFun Try.prog 53 [.loc 0 0, .val (.int .i64 (w : Int)), .val (.int .u64 n)] [.mix 113 (opD o ++ [.farr 1 k]), fmY k (l)] (.tup []) [.mix 113 (opD o ++ [.farr 1 (k + 1)]), fmY (k + 1) (l ++ kN w n)] := by
 refine zan (N := 23) 2 (by kernel_rfl) Try.func53 rfl rfl rfl (by simp only [fr0, qal, qam]; exact rfl) rfl fun s0 hs0 => ?_
 refine zah ?_
 refine zaa 2 rfl ?_
 refine za rfl (zai [] [] [] rfl (ev1 rfl) (ec (WM 1 (ev1 rfl)) (ec (ev1 rfl) (ec (ev1 rfl) en))) rfl rfl (AT w n hw hn) rfl rfl rfl rfl rfl rfl) ?_
 refine zaa 5 rfl ?_
 refine zab ?_
 have hlw := jQ w n
 refine zam 2 ?_
 refine zac ?_
 refine zaa 2 rfl ?_
 refine za rfl (qt rfl (ev1 rfl) (fun s v h => by cases h; exact ⟨_, rfl⟩)) ?_
 refine za rfl (qa rfl Jo (ev1 rfl)) ?_
 refine za rfl (qb rfl kS (ev1 rfl) rfl rfl) ?_
 refine zaa 1 rfl ?_
 refine zaj rfl ((Qn (j1 := 2) (j2 := 3) rfl rfl qK zr5 rfl (ev1 rfl) (ev1 rfl) rfl (Hu) rfl rfl rfl (fun _ => yd (fun _ => rfl) _) (fun _ => ⟨by omega, by omega⟩)).cast (d' := .farr 1 (k + 1)) (by rw [AP])) ?_
 refine za rfl (qt rfl (ev1 rfl) (fun s v h => by cases h; exact ⟨_, rfl⟩)) ?_
 refine za rfl (qa rfl Jo (ev1 rfl)) ?_
 refine qc rfl (kF rfl kS (ev1 rfl) (ev1 rfl) (fun s v h => by cases h <;> exact ⟨rfl, rfl⟩) rfl (by first | decide | exact qaq rfl | simp)) ?_
 refine zab ?_
 refine kc [0, 1] (qD rfl) rfl rfl ?_ ⟨?_, ?_, trivial⟩
 rfl
 rfl
 exact AR
theorem AV {k k' : Nat} {l l' : List Int} (h : k = k') (h' : l = l') : some (fmY k l) = some (fmY k' l') := by rw [h, h']
end Go.Proofs.Ytofklkbfkoliiaa
namespace Go.Proofs.Ytofklkbfkoliiaa
set_option linter.unusedVariables false
set_option linter.unusedSimpArgs false
open Go.RowKit
theorem UQ {σ : List Nat} {V : Nat → Bool} {M : List Blk} {Bs : List Mem} {e : TypeId} {j k sz m : Nat} {L : List Value} (hpj : pos σ j = none) (hVj : V j = true) (hMj : M[j]? = some (.fam Bs)) (hB : Bs[k]? = some (.arr e sz m L)) : vw σ V M (.farr j k) = some (.slf sz m L) := by
 unfold vw
 rw [hpj]
 show yI V M j k = _
 unfold yI
 rw [hVj, hMj]
 show (match Bs[k]? with | some (.arr _ sz n L) => some (D.slf sz n L) | _ => none) = _
 rw [hB]
theorem Zx (o : OpM) (k : Nat) (l : List Int) (hl : l.length ≤ 50000) : DFun Try.prog 54 [.loc 0 0] [.mix 113 (opD o ++ [.farr 1 k]), fmY k (l)] (.arr 2) [.mix 113 (opD o ++ [.farr 1 k]), fmY k (l), .arr 5 1 (l).length ((l).flatMap uc8)] := by
 refine zan (N := 8) 2 (by kernel_rfl) Try.func54 rfl rfl rfl (by simp only [fr0, qal, qam]; exact rfl) rfl fun s0 hs0 => ?_
 refine zah ?_
 refine zaa 1 rfl ?_
 refine zab ?_
 refine zag ?_
 refine zam 1 ?_
 refine zac ?_
 refine zaa 1 rfl ?_
 refine za rfl (qt rfl (ev1 rfl) (fun s v h => by cases h; exact ⟨_, rfl⟩)) ?_
 refine za rfl (qa rfl Jo (ev1 rfl)) ?_
 refine za rfl (qb rfl kS (ev1 rfl) rfl rfl) ?_
 refine zaj rfl (zai [] [1] [2] rfl (ev1 rfl) (ec (ev1 rfl) en) (wj (UQ rfl rfl rfl Hu) rfl) rfl (UC l (by omega)) rfl rfl rfl rfl rfl rfl) ?_
 refine zaa 1 rfl ?_
 refine zab ?_
 refine qe ?_
 refine kc [0, 1, 2] (rs1 rfl (qO rfl)) rfl rfl ?_ ⟨rfl, rfl, rfl, trivial⟩
 rfl
def zO : OpM := ⟨zI3, 0, 0, 0, 0, 0, 0, zC4, 0, 0, [], zI3⟩
theorem wkZ : WkL ([.int .u64 0, .int .i64 0, .int .u64 0, .int .i64 0, .int .i64 0, .int .i64 0, .int .i64 0, .int .i64 0, .int .i64 0, .int .u8 0, .int .u8 0, .int .u8 0, .int .u8 0, .int .i64 0, .int .i64 0, .slice none 0 0, .int .u64 0, .int .i64 0, .int .u64 0, .slice none 0 0].map D.val) (opD zO ++ [.val (.slice none 0 0)]) :=
 WkL.cons (Wk.refl _) (WkL.cons (Wk.refl _) (WkL.cons (Wk.refl _) (WkL.cons (Wk.refl _) (WkL.cons (Wk.refl _) (WkL.cons (Wk.refl _) (WkL.cons (Wk.refl _) (WkL.cons (Wk.refl _) (WkL.cons (Wk.refl _) (WkL.cons (Wk.refl _) (WkL.cons (Wk.refl _) (WkL.cons (Wk.refl _) (WkL.cons (Wk.refl _) (WkL.cons (Wk.refl _) (WkL.cons (Wk.refl _) (WkL.cons (Wk.slf0 4) (WkL.cons (Wk.refl _) (WkL.cons (Wk.refl _) (WkL.cons (Wk.refl _) (WkL.cons (Wk.refl _) (WkL.nil))))))))))))))))))))
theorem Zy {v : Vec} (hv : vB v = true) {n : Int} (h : n ∈ gD v) : 0 ≤ n ∧ n < (256 ^ 8 : Nat) := by
 have e8 : ((256 ^ 8 : Nat) : Int) = 18446744073709551616 := by decide
 rw [e8]
 have h9 := (vB_iff.1 hv).2
 unfold gD at h
 simp only [List.mem_cons, List.not_mem_nil, or_false] at h
 have a1 := h9 1 (by decide)
 have a2 := h9 2 (by decide)
 have a3 := h9 3 (by decide)
 have a4 := h9 4 (by decide)
 have a5 := h9 5 (by decide)
 have a6 := h9 6 (by decide)
 have a7 := h9 7 (by decide)
 have a8 := h9 8 (by decide)
 unfold LAST at a1 a2 a3 a4 a5 a6 a7 a8
 rcases h with h | h | h | h | h | h | h | h <;> subst h <;> omega
theorem KR (l : List Int) : (vY l).length = 8 * l.length := by
 unfold vY
 induction l with
 | nil => rfl
 | cons a l ih => rw [qaD, qap, ih, jQ, qaI]; omega
theorem YI {l : List Int} {j : Nat} (h : j < l.length) : vY (l.take (j + 1)) = vY (l.take j) ++ kN 8 l[j] := by
 unfold vY
 rw [qaU h, List.flatMap_append]
 simp
theorem AW (v : Vec) (hv : vB v = true) : DFun Try.prog 32 [.val (.agg (c9 v).toArray)] [] (.tup [.arr 0, .val (.int .i64 0)]) [.arr 5 1 (vC v).length ((vC v).flatMap uc8)] := by
 refine zan (N := 26) 0 (by kernel_rfl) Try.func32 rfl rfl rfl (by simp only [fr0, qal, qam]; exact rfl) rfl fun s0 hs0 => ?_
 refine zag ?_
 refine zam 1 ?_
 refine zac ?_
 refine zaj rfl (gn 0 rfl (ev1 rfl) rfl) ?_
 refine zaa 2 rfl ?_
 refine zab ?_
 refine zag ?_
 refine zah ?_
 refine za rfl (kG rfl gw (ev1 rfl) rfl rfl) ?_
 refine za rfl (zai [] [] [] rfl (ev1 rfl) (ec (ev1 rfl) en) rfl rfl (uD v) rfl rfl rfl rfl rfl rfl) ?_
 refine zaa 1 rfl ?_
 refine zab ?_
 refine zah ?_
 refine zaa 1 rfl ?_
 refine za rfl (ki rfl (ev1 rfl) (ev1 rfl)) ?_
 refine zab ?_
 refine qj rfl (by rw [hv]; rfl) ?_
 refine qd ?_
 refine zag ?_
 refine zam 1 ?_
 refine zac ?_
 refine zaj rfl (zao 1 rfl zr113 rfl) ?_
 refine zab ?_
 refine zag ?_
 refine kQ 1 yf rfl rfl (by simp only [qas, qaw, zad, zaf, List.map]; exact rfl) ?_
 refine kQ 1 (Jk wkZ) rfl rfl (by simp only [qas, qaw, zad, zaf, List.map]; exact rfl) ?_
 refine vj (l' := opD zO ++ [.arr 2]) 1 19 5 1 rfl rfl rfl rfl (by simp only [qas, qaw, zad, zaf, qaI, qa4, qal, qam]; exact rfl) ?_
 refine kQ 2 Jj rfl rfl (by simp only [qas, qaw, zad, zaf, qaI, qa4, qal, qam]; exact rfl) ?_
 refine yu ?_
 refine Qm 3 rfl (by simp only [qas, qaw, zad, zaf, qaI, qa4, qal, qam]; exact rfl) ?_
 refine Gg 1 19 3 rfl rfl rfl rfl (by simp only [qas, qaw, zad, zaf, qaI, qa4, qal, qam]; exact rfl) ?_
 refine zac ?_
 refine za rfl (qX rfl (ec (ev1 rfl) en) en) ?_
 refine zaa 1 rfl ?_
 refine zab ?_
 refine zag ?_
 refine zag ?_
 refine J4 ⟨hs0, rfl⟩ [1, 3] [0] [(1, _), (2, _), (3, _), (5, _), (6, _)] [_, _] rfl ⟨rfl, rfl, rfl, rfl, rfl, trivial⟩ ⟨rfl, rfl, trivial⟩ ?_
 refine zac ?_
 refine za rfl (XL (p := 1) (q := 9) rfl ar52 (u5 (ev1 rfl) (Wk.of_eq (show D.dpf (c9 v) = D.dpf ((((v 0 : Nat) : Int) :: gD v).flatMap uc) from rfl))) (ji (ev1 rfl)) uk (fun _ => rfl) (fun _ => rfl) (fun _ => by decide) (rfl) (by decide) (fun _ => rfl)) ?_
 refine za rfl ((qJ rfl Vw (ev1 rfl)).cast (d' := .val (.int .i64 8)) (by rfl)) ?_
 refine zaa 1 rfl ?_
 refine zab ?_
 refine qf ?_
 refine Af 15 rfl (Wk.of_eq (show _ = .slf 1 (gD v).length ((gD v).flatMap uc) from rfl)) ?_
 refine qY ⟨hs0, rfl⟩ (α := Nat) (fun j => [(17, .val (.int .i64 (j : Int)))]) [(5, _), (6, _), (15, _), (16, _)] (fun j => [(0, .mix 113 (opD zO ++ [.farr 1 j])), (1, fmY j (vY ((gD v).take j)))]) [.hole, .hole] (fun j => j ≤ 8) (fun j => 8 - j) 0 [0, 1] (by omega) rfl ⟨rfl, rfl, rfl, rfl, trivial⟩ ⟨rfl, trivial⟩ ⟨rfl, rfl, trivial⟩ ?_
 intro j hx
 simp only [upd, zad, zaf, qas, qaw]
 have hj := hx
 have hn8 : (gD v).length = 8 := rfl
 have hlj := KR ((gD v).take j)
 rw [qaN] at hlj
 refine zah ?_
 refine za rfl (qI rfl (ev1 rfl) (ev1 rfl)) ?_
 refine zab ?_
 refine zag ?_
 refine qv rfl (fun c2 => ?_) (fun c2 => ?_)
 ·try simp only [decide_eq_true_eq, decide_eq_false_iff_not, beq_iff_eq, bne_iff_ne, beq_eq_false_iff_ne, bne_eq_false_iff_eq, qau, qay, qan, qaA, qar, ne_eq, Decidable.not_not, qaO, qaP] at c2
  refine qd ?_
  refine zag ?_
  refine qf ?_
  refine zah ?_
  refine za rfl (qS (l := gD v) (en := uc) (j := j) rfl Vw (ev1 rfl) (ev1 rfl) (fun _ => rfl) (by decide) (by omega) (by rw [hn8]; omega)) ?_
  refine za rfl (qV rfl kz (ev1 rfl) rfl) ?_
  refine zaa 1 rfl ?_
  refine zab ?_
  refine zac ?_
  refine zaa 2 rfl ?_
  refine zaj rfl (zai [0, 1] [] [] rfl (ev1 rfl) (ec (ev1 rfl) (ec (ev1 rfl) en)) rfl rfl (AU zO j (vY ((gD v).take j)) 8 (gD v)[j] (by decide) (Zy hv (qa7 _)) (by omega)) rfl rfl rfl rfl rfl rfl) ?_
  refine zab ?_
  refine zac ?_
  refine za rfl (qx rfl (ev1 rfl) (ev1 rfl) (fun _ => qat _ (by omega))) ?_
  refine zaa 1 rfl ?_
  refine zab ?_
  refine ⟨j + 1, [0, 1], by omega, by simp only []; omega, rfl, ⟨rfl, rfl, rfl, rfl, rfl, trivial⟩, ⟨rfl, AV rfl (by rw [YI (by rw [hn8]; omega)]), trivial⟩⟩
 ·try simp only [decide_eq_true_eq, decide_eq_false_iff_not, beq_iff_eq, bne_iff_ne, beq_eq_false_iff_ne, bne_eq_false_iff_eq, qau, qay, qan, qaA, qar, ne_eq, Decidable.not_not, qaO, qaP] at c2
  refine qQ ?_
  refine zag ?_
  obtain rfl : j = 8 := by omega
  refine zam 1 ?_
  refine zac ?_
  refine zaj rfl (zai [0, 1] [] [2] rfl (ev1 rfl) (ec (ev1 rfl) en) rfl rfl (Zx zO (8) (vY ((gD v).take 8)) (by omega)) rfl rfl rfl rfl rfl rfl) ?_
  refine zaa 2 rfl ?_
  refine zab ?_
  refine qe ?_
  refine kc [2] (rs2 rfl (qO rfl) (qO rfl)) rfl rfl ?_ ⟨rfl, trivial⟩
  rfl
end Go.Proofs.Ytofklkbfkoliiaa
namespace Go.Proofs.Ytofklkbfkoliiaa
set_option linter.unusedVariables false
set_option linter.unusedSimpArgs false
open Go.RowKit
attribute [local irreducible] tkN jP ky
theorem UR : DFun Try.prog 78 [.val .nilIface] [] (.val (.int .i64 0)) [] := by
 refine zan (N := 13) 0 (by kernel_rfl) Try.func78 rfl rfl rfl (by simp only [fr0, qal, qam]; exact rfl) rfl fun s0 hs0 => ?_
 refine zah ?_
 refine zaa 1 rfl ?_
 refine zab ?_
 refine zag ?_
 refine zag ?_
 refine zam 1 ?_
 refine zac ?_
 refine zaa 1 rfl ?_
 refine za rfl (Jb rfl Ub zv172 (ev1 rfl)) ?_
 refine zaa 3 rfl ?_
 refine zaj rfl (zao 0 rfl Ue rfl) ?_
 refine qc rfl (q0 rfl Hj (ev1 rfl) (ev1 rfl) rfl rfl rfl rfl) ?_
 refine zaa 1 rfl ?_
 refine zab ?_
 refine zah ?_
 refine zaa 1 rfl ?_
 refine zab ?_
 refine qj rfl (rfl) ?_
 refine qd ?_
 refine zah ?_
 refine zaa 1 rfl ?_
 refine zab ?_
 refine qe ?_
 refine qH (rs1 rfl (qO rfl)) rfl ?_
 rfl
theorem Zz (n : Int) : DFun Try.prog 78 [.ifc 172 (.val (.agg #[.int .i64 n]))] [] (.val (.int .i64 n)) [] := by
 refine zan (N := 13) 0 (by kernel_rfl) Try.func78 rfl rfl rfl (by simp only [fr0, qal, qam]; exact rfl) rfl fun s0 hs0 => ?_
 refine zah ?_
 refine zaa 1 rfl ?_
 refine zab ?_
 refine zag ?_
 refine zag ?_
 refine zam 1 ?_
 refine zac ?_
 refine zaa 1 rfl ?_
 refine za rfl (Ja rfl Ub (ev1 rfl)) ?_
 refine zaa 3 rfl ?_
 refine zaj rfl (zao 0 rfl Ue rfl) ?_
 refine qc rfl (q0 rfl Hj (ev1 rfl) (ev1 rfl) rfl rfl rfl rfl) ?_
 refine zaa 1 rfl ?_
 refine zab ?_
 refine zah ?_
 refine zaa 1 rfl ?_
 refine zab ?_
 refine qR rfl (rfl) ?_
 refine zah ?_
 refine za rfl (qa rfl X8 (ev1 rfl)) ?_
 refine za rfl (qq rfl qU (ev1 rfl) rfl rfl) ?_
 refine zaa 1 rfl ?_
 refine zab ?_
 refine qe ?_
 refine qH (rs1 rfl (qO rfl)) rfl ?_
 rfl
theorem uK (b : Bool) (e : Int) (h : b = true) : DFun Try.prog 80 [.val (.bool b), .val (.int .i64 e)] [] (.tup []) [] := by
 refine zan (N := 9) 0 (by kernel_rfl) Try.func80 rfl rfl rfl (by simp only [fr0, qal, qam]; exact rfl) rfl fun s0 hs0 => ?_
 refine zah ?_
 refine zaa 1 rfl ?_
 refine za rfl (kX rfl (ev1 rfl)) ?_
 refine zab ?_
 refine qj rfl (by simp [h]) ?_
 refine qd ?_
 refine qH (qD rfl) rfl ?_
 rfl
theorem GN (b : Bool) (e : Int) (h : b = false) : DPan Try.prog 80 [.val (.bool b), .val (.int .i64 e)] [] (.ifc 172 (.val (.agg #[.int .i64 e]))) [] := by
 refine zan (N := 9) 0 (by kernel_rfl) Try.func80 rfl rfl rfl (by simp only [fr0, qal, qam]; exact rfl) rfl fun s0 hs0 => ?_
 refine zah ?_
 refine zaa 1 rfl ?_
 refine za rfl (kX rfl (ev1 rfl)) ?_
 refine zab ?_
 refine qR rfl (by simp [h]) ?_
 refine zac ?_
 refine zaa 1 rfl ?_
 refine za rfl (kW (ps := [(0, .tmp 6)]) rfl fl172 Ue (vc (ev1 rfl) vn) rfl rfl) ?_
 refine za rfl (xl rfl Ub (ev1 rfl)) ?_
 refine ke rfl (vR rfl (ev1 rfl)) rfl ?_
 refine JV rfl ?_
 rfl
theorem xR (L : List Int) (e : Int) : DFun Try.prog 92 [.dpm [.slf 1 (L).length ((L).flatMap uc8), .val (.int .i64 e)]] [] (.val (.int .i64 e)) [] := by
 refine zan (N := 10) 0 (by kernel_rfl) Try.func92 rfl rfl rfl (by simp only [fr0, qal, qam]; exact rfl) rfl fun s0 hs0 => ?_
 refine zah ?_
 refine zaa 1 rfl ?_
 refine zab ?_
 refine zag ?_
 refine zah ?_
 refine zaa 1 rfl ?_
 refine za rfl (J9 rfl QC (ev1 rfl)) ?_
 refine zab ?_
 refine qj rfl (rfl) ?_
 refine qd ?_
 refine zah ?_
 refine zaa 1 rfl ?_
 refine za rfl (qt rfl (ev1 rfl) (fun s v h => by cases h; exact ⟨_, rfl⟩)) ?_
 refine za rfl (xK rfl gb (ev1 rfl)) ?_
 refine za rfl (xK rfl yh (ev1 rfl)) ?_
 refine za rfl (gq rfl qU (ev1 rfl) rfl) ?_
 refine zaa 1 rfl ?_
 refine zab ?_
 refine qe ?_
 refine qH (rs1 rfl (qO rfl)) rfl ?_
 rfl
theorem QN (o : OpM) (L : List Int) (hL : okL L) (w : Nat) (hw : 1 ≤ w ∧ w ≤ 8) (n : Int) (r : List Int) (h : tN w L = .ok n r) : DFun Try.prog 82 [.loc 0 0, .val (.int .i64 (w : Int))] [.mix 150 (.loc 1 0 :: opD o), .mix 175 [.slf 1 (L).length ((L).flatMap uc8), .val (.int .i64 0)]] (.val (.int .u64 n)) [.mix 150 (.loc 1 0 :: opD o), .mix 175 [.slf 1 (r).length ((r).flatMap uc8), .val (.int .i64 0)]] := by
 refine zan (N := 25) 2 (by kernel_rfl) Try.func82 rfl rfl rfl (by simp only [fr0, qal, qam]; exact rfl) rfl fun s0 hs0 => ?_
 refine zag ?_
 obtain ⟨h1, h2, h3, h4, h5⟩ := AO hL hw.2 h
 subst h2 h3
 refine zac ?_
 refine zaa 1 rfl ?_
 refine zab ?_
 refine zah ?_
 refine zaa 1 rfl ?_
 refine za rfl (qt rfl (ev1 rfl) (fun s v h => by cases h; exact ⟨_, rfl⟩)) ?_
 refine za rfl (qa rfl vl (ev1 rfl)) ?_
 refine za rfl (qb rfl j8 (ev1 rfl) rfl rfl) ?_
 refine zaa 1 rfl ?_
 refine zaj rfl (zai [1] [] [] rfl (ev1 rfl) (ec (ev1 rfl) (ec (ev1 rfl) en)) rfl rfl (Zq L (Zt hL) w hw h1) rfl rfl rfl rfl rfl rfl) ?_
 refine zaa 1 rfl ?_
 refine zab ?_
 refine zag ?_
 refine qk [([], []), ([], []), ([], []), ([0], []), ([1], []), ([], []), ([], []), ([], []), ([], []), ([0], []), ([1], []), ([], [])] qW (by kernel_rfl) ?_
 refine zae rfl rfl (zal (.inl rfl) (ev1 rfl)) ?_
 refine zae rfl rfl (qt rfl (ev1 rfl) (fun s v h => by cases h; exact ⟨_, rfl⟩)) ?_
 refine zae rfl rfl (qa rfl vl (ev1 rfl)) ?_
 refine zae rfl rfl (qb rfl j8 (ev1 rfl) rfl rfl) ?_
 refine zae rfl rfl (zai [] [1] [] rfl (ev1 rfl) (ec (ev1 rfl) en) rfl rfl (xR (L.drop w) (0)) rfl rfl rfl rfl rfl rfl) ?_
 refine zae rfl rfl (qB rfl (ev1 rfl) (ev1 rfl)) ?_
 refine zae rfl rfl (zal (.inl rfl) (ev1 rfl)) ?_
 refine zae rfl rfl (qt rfl (ev1 rfl) (fun s v h => by cases h; exact ⟨_, rfl⟩)) ?_
 refine zae rfl rfl (qa rfl vl (ev1 rfl)) ?_
 refine zae rfl rfl (qb rfl j8 (ev1 rfl) rfl rfl) ?_
 refine zae rfl rfl (zai [] [1] [] rfl (ev1 rfl) (ec (ev1 rfl) en) rfl rfl (xR (L.drop w) (0)) rfl rfl rfl rfl rfl rfl) ?_
 refine zae rfl rfl (zai [] [] [] rfl (ev1 rfl) (ec (ev1 rfl) (ec (ev1 rfl) en)) rfl rfl (uK _ _ (rfl)) rfl rfl rfl rfl rfl rfl) ?_
 refine qu ?_
 refine zah ?_
 refine zaa 2 rfl ?_
 refine zab ?_
 refine qe ?_
 refine kc [0, 1] (rs1 rfl (qO rfl)) rfl rfl ?_ ⟨rfl, rfl, trivial⟩
 rfl
theorem ZA (o : OpM) (L : List Int) (hL : okL L) (w : Nat) (hw : 1 ≤ w ∧ w ≤ 8) (e : Int) (h : tN w L = .err e) : DPan Try.prog 82 [.loc 0 0, .val (.int .i64 (w : Int))] [.mix 150 (.loc 1 0 :: opD o), .mix 175 [.slf 1 (L).length ((L).flatMap uc8), .val (.int .i64 0)]] (.ifc 172 (.val (.agg #[.int .i64 e]))) [.mix 150 (.loc 1 0 :: opD o), .mix 175 [.slf 1 (L).length ((L).flatMap uc8), .val (.int .i64 e)]] := by
 refine zan (N := 25) 2 (by kernel_rfl) Try.func82 rfl rfl rfl (by simp only [fr0, qal, qam]; exact rfl) rfl fun s0 hs0 => ?_
 refine zag ?_
 obtain ⟨h1, rfl⟩ := UN h
 refine zac ?_
 refine zaa 1 rfl ?_
 refine zab ?_
 refine zah ?_
 refine zaa 1 rfl ?_
 refine za rfl (qt rfl (ev1 rfl) (fun s v h => by cases h; exact ⟨_, rfl⟩)) ?_
 refine za rfl (qa rfl vl (ev1 rfl)) ?_
 refine za rfl (qb rfl j8 (ev1 rfl) rfl rfl) ?_
 refine zaa 1 rfl ?_
 refine zaj rfl (zai [1] [] [] rfl (ev1 rfl) (ec (ev1 rfl) (ec (ev1 rfl) en)) rfl rfl (UG L w hw h1) rfl rfl rfl rfl rfl rfl) ?_
 refine zaa 1 rfl ?_
 refine zab ?_
 refine zag ?_
 refine yp 11 [([], []), ([], []), ([], []), ([0], []), ([1], []), ([], []), ([], []), ([], []), ([], []), ([0], []), ([1], [])] qW (by kernel_rfl) rfl rfl ?_
 refine zae rfl rfl (zal (.inl rfl) (ev1 rfl)) ?_
 refine zae rfl rfl (qt rfl (ev1 rfl) (fun s v h => by cases h; exact ⟨_, rfl⟩)) ?_
 refine zae rfl rfl (qa rfl vl (ev1 rfl)) ?_
 refine zae rfl rfl (qb rfl j8 (ev1 rfl) rfl rfl) ?_
 refine zae rfl rfl (zai [] [1] [] rfl (ev1 rfl) (ec (ev1 rfl) en) rfl rfl (xR (L) (110)) rfl rfl rfl rfl rfl rfl) ?_
 refine zae rfl rfl (qB rfl (ev1 rfl) (ev1 rfl)) ?_
 refine zae rfl rfl (zal (.inl rfl) (ev1 rfl)) ?_
 refine zae rfl rfl (qt rfl (ev1 rfl) (fun s v h => by cases h; exact ⟨_, rfl⟩)) ?_
 refine zae rfl rfl (qa rfl vl (ev1 rfl)) ?_
 refine zae rfl rfl (qb rfl j8 (ev1 rfl) rfl rfl) ?_
 refine zae rfl rfl (zai [] [1] [] rfl (ev1 rfl) (ec (ev1 rfl) en) rfl rfl (xR (L) (110)) rfl rfl rfl rfl rfl rfl) ?_
 refine qu ⟨_, _, _, rfl, qA [] [] [] rfl (ev1 rfl) (ec (ev1 rfl) (ec (ev1 rfl) en)) rfl rfl (GN _ _ (rfl)) rfl rfl rfl rfl rfl rfl, ?_⟩
 refine K9 [0, 1] rfl rfl ?_ ⟨rfl, rfl, trivial⟩
 rfl
end Go.Proofs.Ytofklkbfkoliiaa
namespace Go.Proofs.Ytofklkbfkoliiaa
set_option linter.unusedVariables false
set_option linter.unusedSimpArgs false
open Go.RowKit
attribute [local irreducible] tkN jP ky UI gC tkF UO wt Ju
theorem ZB (o : OpM) (L : List Int) (hL : okL L) (v : Vec) (r : List Int) (h : vD L = .ok v r) : DFun Try.prog 61 [.loc 0 0] [.mix 150 (.loc 1 0 :: opD o), .mix 175 [.slf 1 (L).length ((L).flatMap uc8), .val (.int .i64 0)]] (.val (.agg (c9 v).toArray)) [.mix 150 (.loc 1 0 :: opD o), .mix 175 [.slf 1 (r).length ((r).flatMap uc8), .val (.int .i64 0)]] := by
 refine zan (N := 18) 2 (by kernel_rfl) Try.func61 rfl rfl rfl (by simp only [fr0, qal, qam]; exact rfl) rfl fun s0 hs0 => ?_
 refine zag ?_
 rw [Jv] at h
 refine zam 1 ?_
 refine zac ?_
 refine zaj rfl (zao 2 rfl xx rfl) ?_
 refine zab ?_
 refine zag ?_
 refine zam 1 ?_
 refine zac ?_
 refine zaj rfl (zao 3 rfl xx rfl) ?_
 refine zab ?_
 refine zag ?_
 refine zah ?_
 refine zaa 1 rfl ?_
 refine zab ?_
 refine qf ?_
 refine qY ⟨hs0, rfl⟩ (α := Nat × Vec × List Int) (fun x => [(4, .val (.int .i64 ((x.1 + 1 : Nat) : Int)))]) [(0, _), (2, _), (3, _)] (fun x => [(1, .mix 175 [.slf 1 (x.2.2).length ((x.2.2).flatMap uc8), .val (.int .i64 0)]), (3, .flat 52 (c9 x.2.1))]) [_, .hole, _, .hole] (fun x => okL x.2.2 ∧ x.1 ≤ 8 ∧ wt (8 - x.1) x.2.1 x.2.2 = .ok v r) (fun x => 8 - x.1) (0, z9, L) [0, 1, 2, 3] (⟨hL, qaZ _, h⟩) rfl ⟨rfl, rfl, rfl, trivial⟩ ⟨rfl, trivial⟩ ⟨rfl, rfl, rfl, rfl, trivial⟩ ?_
 intro x hx
 simp only [upd, zad, zaf, qas, qaw]
 obtain ⟨hk, hle, hy⟩ := hx
 refine zag ?_
 refine zah ?_
 refine zaa 1 rfl ?_
 refine za rfl (yK rfl (ev1 rfl) (ev1 rfl)) ?_
 refine zab ?_
 refine qv rfl (fun c1 => ?_) (fun c1 => ?_)
 ·try simp only [decide_eq_true_eq, decide_eq_false_iff_not, beq_iff_eq, bne_iff_ne, beq_eq_false_iff_ne, bne_eq_false_iff_eq, qau, qay, qan, qaA, qar, ne_eq, Decidable.not_not, qaO, qaP] at c1
  refine qd ?_
  refine zag ?_
  refine qf ?_
  obtain ⟨n, q, hn, hz⟩ := Zu (by omega) hy
  have hn0 : 0 ≤ n := (QM hk hn).2.2.2.1.1
  refine zac ?_
  refine zaa 2 rfl ?_
  refine zaj rfl ((zai [0, 1] [] [] rfl (ev1 rfl) (ec (ev1 rfl) (ec (ev1 rfl) en)) rfl rfl (QN o (x.2.2) (hk) 8 (by decide) (n) (q) (hn)) rfl rfl rfl rfl rfl rfl).cast (d' := .val (.int .u64 ((n.toNat : Nat) : Int))) (by rw [Int.toNat_of_nonneg hn0])) ?_
  refine za rfl (Yd rfl ar52 (ev1 rfl) (ev1 rfl) (fun _ => by omega)) ?_
  refine qc rfl (Ye rfl kz (ev1 rfl) (ev1 rfl) rfl (by rw [W6]; omega) (Qu (j := x.1 + 1) (by omega) (by omega))) ?_
  refine zab ?_
  refine zac ?_
  refine zaa 1 rfl ?_
  refine za rfl (qx rfl (ev1 rfl) (ev1 rfl) (fun _ => qat _ (by omega))) ?_
  refine zaa 1 rfl ?_
  refine zab ?_
  refine ⟨(x.1 + 1, upV x.2.1 (x.1 + 1) n.toNat, q), [0, 1, 2, 3], ⟨Hv hk hn, by show x.1 + 1 ≤ 8; omega, hz⟩, by show 8 - (x.1 + 1) < 8 - x.1; omega, rfl, ⟨rfl, rfl, rfl, rfl, trivial⟩, ⟨rfl, rfl, rfl, rfl, trivial⟩⟩
 ·try simp only [decide_eq_true_eq, decide_eq_false_iff_not, beq_iff_eq, bne_iff_ne, beq_eq_false_iff_ne, bne_eq_false_iff_eq, qau, qay, qan, qaA, qar, ne_eq, Decidable.not_not, qaO, qaP] at c1
  refine qQ ?_
  refine zag ?_
  obtain ⟨hvB, hxv, hxr⟩ := AS (by omega) hy
  rw [hxv, hxr]
  refine zac ?_
  refine za rfl (kG rfl gw (ev1 rfl) rfl rfl) ?_
  refine za rfl (zai [] [] [] rfl (ev1 rfl) (ec (ev1 rfl) en) rfl rfl (uD v) rfl rfl rfl rfl rfl rfl) ?_
  refine za rfl (qB rfl (ev1 rfl) (ev1 rfl)) ?_
  refine za rfl (zai [] [] [] rfl (ev1 rfl) (ec (ev1 rfl) (ec (ev1 rfl) en)) rfl rfl (uK _ _ (by rw [hvB]; rfl)) rfl rfl rfl rfl rfl rfl) ?_
  refine zab ?_
  refine zah ?_
  refine za rfl (kG rfl gw (ev1 rfl) rfl rfl) ?_
  refine qc rfl (q0 rfl gw (ev1 rfl) (ev1 rfl) rfl rfl rfl rfl) ?_
  refine zab ?_
  refine qe ?_
  refine kc [0, 1] (rs1 rfl (vf gw rfl rfl rfl)) rfl rfl ?_ ⟨rfl, rfl, trivial⟩
  rfl
theorem US (o : OpM) (L : List Int) (hL : okL L) (e : Int) (h : vD L = .err e) : DPanL Try.prog 61 [.loc 0 0] [.mix 150 (.loc 1 0 :: opD o), .mix 175 [.slf 1 (L).length ((L).flatMap uc8), .val (.int .i64 0)]] (.ifc 172 (.val (.agg #[.int .i64 e]))) := by
 refine zan (N := 18) 2 (by kernel_rfl) Try.func61 rfl rfl rfl (by simp only [fr0, qal, qam]; exact rfl) rfl fun s0 hs0 => ?_
 refine zag ?_
 rw [Jv] at h
 refine zam 1 ?_
 refine zac ?_
 refine zaj rfl (zao 2 rfl xx rfl) ?_
 refine zab ?_
 refine zag ?_
 refine zam 1 ?_
 refine zac ?_
 refine zaj rfl (zao 3 rfl xx rfl) ?_
 refine zab ?_
 refine zag ?_
 refine zah ?_
 refine zaa 1 rfl ?_
 refine zab ?_
 refine qf ?_
 refine qY ⟨hs0, rfl⟩ (α := Nat × Vec × List Int) (fun x => [(4, .val (.int .i64 ((x.1 + 1 : Nat) : Int)))]) [(0, _), (2, _), (3, _)] (fun x => [(1, .mix 175 [.slf 1 (x.2.2).length ((x.2.2).flatMap uc8), .val (.int .i64 0)]), (3, .flat 52 (c9 x.2.1))]) [_, .hole, _, .hole] (fun x => okL x.2.2 ∧ x.1 ≤ 8 ∧ wt (8 - x.1) x.2.1 x.2.2 = .err e) (fun x => 8 - x.1) (0, z9, L) [0, 1, 2, 3] (⟨hL, qaZ _, h⟩) rfl ⟨rfl, rfl, rfl, trivial⟩ ⟨rfl, trivial⟩ ⟨rfl, rfl, rfl, rfl, trivial⟩ ?_
 intro x hx
 simp only [upd, zad, zaf, qas, qaw]
 obtain ⟨hk, hle, hy⟩ := hx
 refine zag ?_
 refine zah ?_
 refine zaa 1 rfl ?_
 refine za rfl (yK rfl (ev1 rfl) (ev1 rfl)) ?_
 refine zab ?_
 refine qv rfl (fun c1 => ?_) (fun c1 => ?_)
 ·try simp only [decide_eq_true_eq, decide_eq_false_iff_not, beq_iff_eq, bne_iff_ne, beq_eq_false_iff_ne, bne_eq_false_iff_eq, qau, qay, qan, qaA, qar, ne_eq, Decidable.not_not, qaO, qaP] at c1
  refine qd ?_
  refine zag ?_
  refine qf ?_
  by_cases hs : ∃ n q, tN 8 x.2.2 = .ok n q ∧ wt (8 - (x.1 + 1)) (upV x.2.1 (x.1 + 1) n.toNat) q = .err e
  ·obtain ⟨n, q, hn, hz⟩ := hs
   have hn0 : 0 ≤ n := (QM hk hn).2.2.2.1.1
   refine zac ?_
   refine zaa 2 rfl ?_
   refine zaj rfl ((zai [0, 1] [] [] rfl (ev1 rfl) (ec (ev1 rfl) (ec (ev1 rfl) en)) rfl rfl (QN o (x.2.2) (hk) 8 (by decide) (n) (q) (hn)) rfl rfl rfl rfl rfl rfl).cast (d' := .val (.int .u64 ((n.toNat : Nat) : Int))) (by rw [Int.toNat_of_nonneg hn0])) ?_
   refine za rfl (Yd rfl ar52 (ev1 rfl) (ev1 rfl) (fun _ => by omega)) ?_
   refine qc rfl (Ye rfl kz (ev1 rfl) (ev1 rfl) rfl (by rw [W6]; omega) (Qu (j := x.1 + 1) (by omega) (by omega))) ?_
   refine zab ?_
   refine zac ?_
   refine zaa 1 rfl ?_
   refine za rfl (qx rfl (ev1 rfl) (ev1 rfl) (fun _ => qat _ (by omega))) ?_
   refine zaa 1 rfl ?_
   refine zab ?_
   refine ⟨(x.1 + 1, upV x.2.1 (x.1 + 1) n.toNat, q), [0, 1, 2, 3], ⟨Hv hk hn, by show x.1 + 1 ≤ 8; omega, hz⟩, by show 8 - (x.1 + 1) < 8 - x.1; omega, rfl, ⟨rfl, rfl, rfl, rfl, trivial⟩, ⟨rfl, rfl, rfl, rfl, trivial⟩⟩
  ·have hn : tN 8 x.2.2 = .err e := by
    rcases Zv (by omega) hy with h1 | ⟨n, q, h1, h2⟩
    ·exact h1
    ·exact absurd ⟨n, q, h1, h2⟩ hs
   refine zac ?_
   refine zaa 2 rfl ?_
   refine ke rfl (qA [0, 1] [] [] rfl (ev1 rfl) (ec (ev1 rfl) (ec (ev1 rfl) en)) rfl rfl (ZA o (x.2.2) (hk) 8 (by decide) (e) (hn)) rfl rfl rfl rfl rfl rfl) rfl ?_
   refine yW (Mo := [_, _]) [0, 1] rfl rfl ?_ ⟨rfl, rfl, trivial⟩ rfl
   rfl
 ·try simp only [decide_eq_true_eq, decide_eq_false_iff_not, beq_iff_eq, bne_iff_ne, beq_eq_false_iff_ne, bne_eq_false_iff_eq, qau, qay, qan, qaA, qar, ne_eq, Decidable.not_not, qaO, qaP] at c1
  refine qQ ?_
  refine zag ?_
  obtain ⟨hvB, rfl⟩ := Zw (by omega) hy
  refine zac ?_
  refine za rfl (kG rfl gw (ev1 rfl) rfl rfl) ?_
  refine za rfl (zai [] [] [] rfl (ev1 rfl) (ec (ev1 rfl) en) rfl rfl (uD x.2.1) rfl rfl rfl rfl rfl rfl) ?_
  refine za rfl (qB rfl (ev1 rfl) (ev1 rfl)) ?_
  refine ke rfl (qA [] [] [] rfl (ev1 rfl) (ec (ev1 rfl) (ec (ev1 rfl) en)) rfl rfl (GN _ _ (by rw [hvB]; rfl)) rfl rfl rfl rfl rfl rfl) rfl ?_
  refine yW (Mo := [_, _]) [0, 1] rfl rfl ?_ ⟨rfl, rfl, trivial⟩ rfl
  rfl
theorem ZC (o : OpM) (L : List Int) (hL : okL L) (e : Int) (h : vD L = .err e) : DPan Try.prog 61 [.loc 0 0] [.mix 150 (.loc 1 0 :: opD o), .mix 175 [.slf 1 (L).length ((L).flatMap uc8), .val (.int .i64 0)]] (.ifc 172 (.val (.agg #[.int .i64 e]))) [.gone, .gone] := (US o L hL e h).dead
theorem GO (o : OpM) (L : List Int) (hL : okL L) (v : Vec) (r : List Int) (h : vD L = .ok v r) : DFun Try.prog 60 [.loc 0 0] [.mix 150 (.loc 1 0 :: opD o), .mix 175 [.slf 1 (L).length ((L).flatMap uc8), .val (.int .i64 0)]] (.val (.agg (c9 v).toArray)) [.mix 150 (.loc 1 0 :: opD o), .mix 175 [.slf 1 (r).length ((r).flatMap uc8), .val (.int .i64 0)]] := by
 refine zan (N := 5) 2 (by kernel_rfl) Try.func60 rfl rfl rfl (by simp only [fr0, qal, qam]; exact rfl) rfl fun s0 hs0 => ?_
 refine zag ?_
 refine zam 1 ?_
 refine zac ?_
 refine zaj rfl (zao 2 rfl xx rfl) ?_
 refine zab ?_
 refine zah ?_
 refine zaa 1 rfl ?_
 refine zaj rfl (zai [0, 1] [] [] rfl (ev1 rfl) (ec (ev1 rfl) en) rfl rfl (ZB o L hL v r h) rfl rfl rfl rfl rfl rfl) ?_
 refine qc rfl (q0 rfl gw (ev1 rfl) (ev1 rfl) rfl rfl rfl rfl) ?_
 refine zab ?_
 refine qe ?_
 refine kc [0, 1] (rs1 rfl (vf gw rfl rfl rfl)) rfl rfl ?_ ⟨rfl, rfl, trivial⟩
 rfl
theorem Jw (o : OpM) (L : List Int) (hL : okL L) (e : Int) (hp : DPan Try.prog 61 [.loc 0 0] [.mix 150 (.loc 1 0 :: opD o), .mix 175 [.slf 1 (L).length ((L).flatMap uc8), .val (.int .i64 0)]] (.ifc 172 (.val (.agg #[.int .i64 e]))) [.gone, .gone]) : DPanL Try.prog 60 [.loc 0 0] [.mix 150 (.loc 1 0 :: opD o), .mix 175 [.slf 1 (L).length ((L).flatMap uc8), .val (.int .i64 0)]] (.ifc 172 (.val (.agg #[.int .i64 e]))) := by
 refine zan (N := 5) 2 (by kernel_rfl) Try.func60 rfl rfl rfl (by simp only [fr0, qal, qam]; exact rfl) rfl fun s0 hs0 => ?_
 refine zag ?_
 refine zam 1 ?_
 refine zac ?_
 refine zaj rfl (zao 2 rfl xx rfl) ?_
 refine zab ?_
 refine zah ?_
 refine zaa 1 rfl ?_
 refine ke rfl (qA [0, 1] [] [] rfl (ev1 rfl) (ec (ev1 rfl) en) rfl rfl (hp) rfl rfl rfl rfl rfl rfl) rfl ?_
 refine yW (Mo := [_, _]) [0, 1] rfl rfl ?_ ⟨rfl, rfl, trivial⟩ rfl
 rfl
theorem GP (o : OpM) (L : List Int) (hL : okL L) (e : Int) (h : vD L = .err e) : DPan Try.prog 60 [.loc 0 0] [.mix 150 (.loc 1 0 :: opD o), .mix 175 [.slf 1 (L).length ((L).flatMap uc8), .val (.int .i64 0)]] (.ifc 172 (.val (.agg #[.int .i64 e]))) [.gone, .gone] := (Jw o L hL e (ZC o L hL e h)).dead
end Go.Proofs.Ytofklkbfkoliiaa
