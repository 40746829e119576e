/- a tile as bytes; a reader: the bytes that stand next; a tile that is read; a tile that is read, whole; tiles and sizes that are read; tiles that are read, one behind the other; tiles that are read, all; canvases that are read; canvases as bytes; canvases and patches, whole; A variable that holds one value with an address, then numbers, then another value with an address: its numbers told as one list; wakes; octet: readers; Numbers, ids, colours, as bytes; Ids, places, colours, stamps, as bytes; Operations, as bytes, kind by kind; Operations, as bytes; Rows of operations, and vectors, as bytes; What the laws of codes ask; Vectors, as bytes; Fields one by one; bytes of numbers; what is taken, step by step; laying: numbers and ids; laying: vectors; taking: numbers. No condition. -/
import Derived.Test.YtofklkbfkoliiaaGreatP4
import Derived.Test.YtofklkbfkoliiaaGreatRows
set_option maxRecDepth 4000
set_option maxHeartbeats 1000000
open List renaming getElem?_eq_some_iff → qas, getElem?_eq_getElem → qat, length_append → qaD, cons_append → qaE, nil_append → qaH, replicate → qaJ, flatMap_cons → qaL, getElem?_append_right → qaP, length_replicate → qaS, length_take → qaT, length_cons → qaU, eq_nil_of_length_eq_zero → qaW, take_of_length_le → qaX, take_succ_eq_append_getElem → qa0, append_assoc → qa1, getD_eq_getElem?_getD → qa2, mem_cons_self → qa6, mem_cons_of_mem → qa9, length_nil → qbd, getElem_mem → qbf, flatMap_append → qbg, append_nil → qbk
open Nat renaming zero_add → qau, reduceAdd → qaw, le_of_ble_eq_true → qaF, le_trans → qaM, le_refl → qaO, lt_of_succ_le → qa3, zero_le → qa5, mul_le_mul_right → qa8, succ_mul → qbj
open Bool renaming and_eq_true → qav, or_eq_false_iff → qax, not_eq_true' → qaz, not_eq_false' → qaA, or_eq_true → qaB
open Go.IntWalk renaming i64_in → qaC
open Int renaming not_lt → qaQ, not_le → qaR, toNat_natCast → qbe
namespace Go.Proofs.YtofklkbfkoliiaaGreat
set_option linter.unusedVariables false
set_option linter.unusedSimpArgs false
open Go.RowKit
attribute [local irreducible] kz kZ yd gy
theorem X8 (t : TL) : DFun Tryz.prog 111 [tD t] [] (.slf 1 (gy t).length ((gy t).flatMap uc8)) [] := by
 refine zap (N := 26) 0 (by kernel_rfl) Tryz.func111 rfl rfl rfl (by simp only [fr0, qau, qaw]; exact rfl) rfl fun s0 hs0 => ?_
 refine zae ?_
 refine zam 1 ?_
 refine zac ?_
 refine zaj rfl (gC 0 rfl (ev1 rfl) rfl) ?_
 refine zaa 1 rfl ?_
 refine zab ?_
 refine zae ?_
 refine zam 1 ?_
 refine zac ?_
 refine zaj rfl (zan 1 rfl W7 rfl) ?_
 refine zab ?_
 refine zae ?_
 refine zae ?_
 refine zam 1 ?_
 refine zac ?_
 refine zaj rfl (zai [0] [] [2] rfl (ev1 rfl) (ec (ev1 rfl) en) rfl rfl (X5 t) rfl rfl rfl rfl rfl rfl) ?_
 refine zab ?_
 refine zas ?_
 refine wV 1 5 1 rfl (by simp only [qaE, qaH, zad, zaf, qaU, qbd, qau, qaw]; exact rfl) ?_
 refine jL ?_
 refine Jf 4 rfl (by simp only [qaE, qaH, zad, zaf]; exact rfl) ?_
 refine Gi 1 0 4 rfl rfl rfl rfl (by simp only [qaE, qaH, zad, zaf]; exact rfl) ?_
 refine jL ?_
 simp only [qaE, qaH]
 refine u7 (FL := [(3, _)]) (st := .ready) (pe := none) [5, 1, 4, 0, 2] [] [] 5 rfl rfl (ev1 rfl) rfl (yl ⟨rfl, trivial⟩) rfl rfl rfl (YL t) rfl rfl rfl rfl rfl rfl rfl (by simp) (fun e => ?_) (fun c e => ?_)
 ·simp only [upd, zad, zaf]
  refine zah ?_
  refine za rfl (zaq rfl kC (ev1 rfl) rfl rfl) ?_
  refine zaa 1 rfl ?_
  refine zab ?_
  refine jL ?_
  refine XU 2 4 (j := 6) rfl rfl (Uk _ _) rfl (by simp only [qaE, qaH, zad, zaf]; exact rfl) ?_
  refine Vf 2 rfl rfl (by simp only [qaE, qaH, zad, zaf]; exact rfl) ?_
  refine qb ?_
  refine qx (rs1 rfl (qJ rfl)) rfl ?_
  rfl
 ·cases e
end Go.Proofs.YtofklkbfkoliiaaGreat
namespace Go.Proofs.YtofklkbfkoliiaaGreat
set_option linter.unusedVariables false
set_option linter.unusedSimpArgs false
open Go.RowKit
abbrev VA (B : List Int) (p : Nat) : List Int := [bAt B p, bAt B (p + 1)]
abbrev yO (B : List Int) (p : Nat) : List Int := [bAt B p, bAt B (p + 1), bAt B (p + 2), bAt B (p + 3), bAt B (p + 4)]
theorem VB {B : List Int} {p : Nat} (h : p + 2 ≤ B.length) : (B.drop p).take 2 = VA B p := by
 rw [je (by omega), je (p := p + 1) (by omega)]; rfl
theorem VC {B : List Int} {p : Nat} (h : p + 5 ≤ B.length) : (B.drop p).take 5 = yO B p := by
 rw [je (by omega), je (p := p + 1) (by omega), je (p := p + 1 + 1) (by omega), je (p := p + 1 + 1 + 1) (by omega), je (p := p + 1 + 1 + 1 + 1) (by omega)]; rfl
abbrev runI (r : Int × C4) : List Value := .int .i64 r.1 :: c4 r.2
theorem Ht (B : List Int) (hB : B.length ≤ 4000000000000000000) (p : Nat) (hq : p + 2 ≤ B.length) : DFun Tryz.prog 120 [.loc 0 0, .val (.int .i64 (2 : Int))] [.mix 158 [.val (.int .i64 0), .val (.int .i64 0), .val (.slice none 0 0), .slf 1 (B).length ((B).flatMap uc8), .val (.int .i64 (p : Int))]] (.slf 1 2 ((VA B p).flatMap uc8)) [.mix 158 [.val (.int .i64 0), .val (.int .i64 0), .val (.slice none 0 0), .slf 1 (B).length ((B).flatMap uc8), .val (.int .i64 ((p + 2 : Nat) : Int))]] := by
 refine zap (N := 38) 1 (by kernel_rfl) Tryz.func120 rfl rfl rfl (by simp only [fr0, qau, qaw]; exact rfl) rfl fun s0 hs0 => ?_
 refine zah ?_
 refine zaa 1 rfl ?_
 refine zab ?_
 refine zae ?_
 refine qg [([], []), ([], []), ([], []), ([0], []), ([], []), ([], []), ([], []), ([0], []), ([], []), ([], []), ([], []), ([], [])] qU (by kernel_rfl) ?_
 refine zag rfl rfl (zal (.inl rfl) (ev1 rfl)) ?_
 refine zag rfl rfl (qw rfl (ev1 rfl) (fun s v h => by cases h; exact ⟨_, rfl⟩)) ?_
 refine zag rfl rfl (qa rfl kT (ev1 rfl)) ?_
 refine zag rfl rfl (zaq rfl tb3 (ev1 rfl) rfl rfl) ?_
 refine zag rfl rfl (zal (.inl rfl) (ev1 rfl)) ?_
 refine zag rfl rfl (qw rfl (ev1 rfl) (fun s v h => by cases h; exact ⟨_, rfl⟩)) ?_
 refine zag rfl rfl (qa rfl kT (ev1 rfl)) ?_
 refine zag rfl rfl (zaq rfl tb3 (ev1 rfl) rfl rfl) ?_
 refine zag rfl rfl (zal (.inl rfl) (ev1 rfl)) ?_
 refine zag rfl rfl (qh rfl (ev1 rfl) (ev1 rfl) (fun _ => qaC _ (by omega))) ?_
 refine zag rfl rfl (zal (.inr rfl) (ev1 rfl)) ?_
 refine zag rfl rfl (zal (.inr rfl) (ev1 rfl)) ?_
 refine qp ?_
 refine zae ?_
 refine zah ?_
 refine zaa 2 rfl ?_
 refine za rfl (qw rfl (ev1 rfl) (fun s v h => by cases h; exact ⟨_, rfl⟩)) ?_
 refine za rfl (qa rfl jW (ev1 rfl)) ?_
 refine za rfl (zaq rfl kC (ev1 rfl) rfl rfl) ?_
 refine za rfl (qt rfl qu (ev1 rfl)) ?_
 refine za rfl (kE rfl (ev1 rfl) (ev1 rfl)) ?_
 refine zab ?_
 refine qc rfl (by simp; omega) ?_
 refine zao ?_
 refine zah ?_
 refine zaa 2 rfl ?_
 refine za rfl (qw rfl (ev1 rfl) (fun s v h => by cases h; exact ⟨_, rfl⟩)) ?_
 refine za rfl (qa rfl kT (ev1 rfl)) ?_
 refine zar rfl (kL rfl tb3 (ev1 rfl) (ev1 rfl) (fun s v h => by cases h <;> exact ⟨rfl, rfl⟩) rfl (by first | decide | exact qaF rfl | simp)) ?_
 refine zab ?_
 refine zah ?_
 refine zaa 1 rfl ?_
 refine za rfl (qw rfl (ev1 rfl) (fun s v h => by cases h; exact ⟨_, rfl⟩)) ?_
 refine za rfl (qa rfl jW (ev1 rfl)) ?_
 refine za rfl (zaq rfl kC (ev1 rfl) rfl rfl) ?_
 refine zaa 3 rfl ?_
 refine za rfl (yq (i := p) (j := p + 2) rfl qu (ev1 rfl) (ev1 rfl) (ev1 rfl) (ev1 rfl) (fun hp => by first | omega | (simp at hp; omega)) (fun hp => by first | omega | (simp at hp; omega)) (fun hp => by first | omega | (simp at hp; omega)) (fun hp => by first | omega | (simp at hp; omega)) (fun _ => rfl)) ?_
 refine zaa 1 rfl ?_
 refine zab ?_
 refine qb ?_
 refine qY [0] (rs1 rfl (qJ rfl)) rfl rfl ?_ ⟨rfl, trivial⟩
 rw [show p + 2 - p = 2 by omega, VB hq]; rfl
theorem Ul (B : List Int) (hB : B.length ≤ 4000000000000000000) (p : Nat) (hp : p ≤ B.length) (hq : ¬ p + 2 ≤ B.length) : DPanL Tryz.prog 120 [.loc 0 0, .val (.int .i64 (2 : Int))] [.mix 158 [.val (.int .i64 0), .val (.int .i64 0), .val (.slice none 0 0), .slf 1 (B).length ((B).flatMap uc8), .val (.int .i64 (p : Int))]] (.ifc 181 (.val (.agg #[]))) := by
 refine zap (N := 38) 1 (by kernel_rfl) Tryz.func120 rfl rfl rfl (by simp only [fr0, qau, qaw]; exact rfl) rfl fun s0 hs0 => ?_
 refine zah ?_
 refine zaa 1 rfl ?_
 refine zab ?_
 refine zae ?_
 refine qg [([], []), ([], []), ([], []), ([0], []), ([], []), ([], []), ([], []), ([0], []), ([], []), ([], []), ([], []), ([], [])] qU (by kernel_rfl) ?_
 refine zag rfl rfl (zal (.inl rfl) (ev1 rfl)) ?_
 refine zag rfl rfl (qw rfl (ev1 rfl) (fun s v h => by cases h; exact ⟨_, rfl⟩)) ?_
 refine zag rfl rfl (qa rfl kT (ev1 rfl)) ?_
 refine zag rfl rfl (zaq rfl tb3 (ev1 rfl) rfl rfl) ?_
 refine zag rfl rfl (zal (.inl rfl) (ev1 rfl)) ?_
 refine zag rfl rfl (qw rfl (ev1 rfl) (fun s v h => by cases h; exact ⟨_, rfl⟩)) ?_
 refine zag rfl rfl (qa rfl kT (ev1 rfl)) ?_
 refine zag rfl rfl (zaq rfl tb3 (ev1 rfl) rfl rfl) ?_
 refine zag rfl rfl (zal (.inl rfl) (ev1 rfl)) ?_
 refine zag rfl rfl (qh rfl (ev1 rfl) (ev1 rfl) (fun _ => qaC _ (by omega))) ?_
 refine zag rfl rfl (zal (.inr rfl) (ev1 rfl)) ?_
 refine zag rfl rfl (zal (.inr rfl) (ev1 rfl)) ?_
 refine qp ?_
 refine zae ?_
 refine zah ?_
 refine zaa 2 rfl ?_
 refine za rfl (qw rfl (ev1 rfl) (fun s v h => by cases h; exact ⟨_, rfl⟩)) ?_
 refine za rfl (qa rfl jW (ev1 rfl)) ?_
 refine za rfl (zaq rfl kC (ev1 rfl) rfl rfl) ?_
 refine za rfl (qt rfl qu (ev1 rfl)) ?_
 refine za rfl (kE rfl (ev1 rfl) (ev1 rfl)) ?_
 refine zab ?_
 refine qM rfl (by simp; omega) ?_
 refine zac ?_
 refine za rfl (kW rfl Gl zA) ?_
 refine za rfl (xq rfl zy (ev1 rfl)) ?_
 refine qZ rfl (wb rfl (ev1 rfl)) rfl ?_
 refine vf (Mo := [_]) [0] rfl rfl ?_ ⟨rfl, trivial⟩ rfl
 rfl
theorem Um (B : List Int) (hB : B.length ≤ 4000000000000000000) (w h : Int) (us : List TL) (hu : us.length ≤ 5000) (p : Nat) (hq : p + 5 ≤ B.length) : DFun Tryz.prog 120 [.loc 0 0, .val (.int .i64 (5 : Int))] [.mix 158 [.val (.int .i64 w), .val (.int .i64 h), .arr 1, .slf 1 (B).length ((B).flatMap uc8), .val (.int .i64 (p : Int))], .arr 84 256 (us).length ((us).flatMap tc)] (.slf 1 5 ((yO B p).flatMap uc8)) [.mix 158 [.val (.int .i64 w), .val (.int .i64 h), .arr 1, .slf 1 (B).length ((B).flatMap uc8), .val (.int .i64 ((p + 5 : Nat) : Int))], .arr 84 256 (us).length ((us).flatMap tc)] := by
 refine zap (N := 38) 2 (by kernel_rfl) Tryz.func120 rfl rfl rfl (by simp only [fr0, qau, qaw]; exact rfl) rfl fun s0 hs0 => ?_
 refine zah ?_
 refine zaa 1 rfl ?_
 refine zab ?_
 refine zae ?_
 refine qg [([], []), ([], []), ([], []), ([0], []), ([], []), ([], []), ([], []), ([0], []), ([], []), ([], []), ([], []), ([], [])] qU (by kernel_rfl) ?_
 refine zag rfl rfl (zal (.inl rfl) (ev1 rfl)) ?_
 refine zag rfl rfl (qw rfl (ev1 rfl) (fun s v h => by cases h; exact ⟨_, rfl⟩)) ?_
 refine zag rfl rfl (qa rfl kT (ev1 rfl)) ?_
 refine zag rfl rfl (zaq rfl tb3 (ev1 rfl) rfl rfl) ?_
 refine zag rfl rfl (zal (.inl rfl) (ev1 rfl)) ?_
 refine zag rfl rfl (qw rfl (ev1 rfl) (fun s v h => by cases h; exact ⟨_, rfl⟩)) ?_
 refine zag rfl rfl (qa rfl kT (ev1 rfl)) ?_
 refine zag rfl rfl (zaq rfl tb3 (ev1 rfl) rfl rfl) ?_
 refine zag rfl rfl (zal (.inl rfl) (ev1 rfl)) ?_
 refine zag rfl rfl (qh rfl (ev1 rfl) (ev1 rfl) (fun _ => qaC _ (by omega))) ?_
 refine zag rfl rfl (zal (.inr rfl) (ev1 rfl)) ?_
 refine zag rfl rfl (zal (.inr rfl) (ev1 rfl)) ?_
 refine qp ?_
 refine zae ?_
 refine zah ?_
 refine zaa 2 rfl ?_
 refine za rfl (qw rfl (ev1 rfl) (fun s v h => by cases h; exact ⟨_, rfl⟩)) ?_
 refine za rfl (qa rfl jW (ev1 rfl)) ?_
 refine za rfl (zaq rfl kC (ev1 rfl) rfl rfl) ?_
 refine za rfl (qt rfl qu (ev1 rfl)) ?_
 refine za rfl (kE rfl (ev1 rfl) (ev1 rfl)) ?_
 refine zab ?_
 refine qc rfl (by simp; omega) ?_
 refine zao ?_
 refine zah ?_
 refine zaa 2 rfl ?_
 refine za rfl (qw rfl (ev1 rfl) (fun s v h => by cases h; exact ⟨_, rfl⟩)) ?_
 refine za rfl (qa rfl kT (ev1 rfl)) ?_
 refine zar rfl (kL rfl tb3 (ev1 rfl) (ev1 rfl) (fun s v h => by cases h <;> exact ⟨rfl, rfl⟩) rfl (by first | decide | exact qaF rfl | simp)) ?_
 refine zab ?_
 refine zah ?_
 refine zaa 1 rfl ?_
 refine za rfl (qw rfl (ev1 rfl) (fun s v h => by cases h; exact ⟨_, rfl⟩)) ?_
 refine za rfl (qa rfl jW (ev1 rfl)) ?_
 refine za rfl (zaq rfl kC (ev1 rfl) rfl rfl) ?_
 refine zaa 3 rfl ?_
 refine za rfl (yq (i := p) (j := p + 5) rfl qu (ev1 rfl) (ev1 rfl) (ev1 rfl) (ev1 rfl) (fun hp => by first | omega | (simp at hp; omega)) (fun hp => by first | omega | (simp at hp; omega)) (fun hp => by first | omega | (simp at hp; omega)) (fun hp => by first | omega | (simp at hp; omega)) (fun _ => rfl)) ?_
 refine zaa 1 rfl ?_
 refine zab ?_
 refine qb ?_
 refine qY [0, 1] (rs1 rfl (qJ rfl)) rfl rfl ?_ ⟨rfl, rfl, trivial⟩
 rw [show p + 5 - p = 5 by omega, VC hq]; rfl
theorem VD (B : List Int) (hB : B.length ≤ 4000000000000000000) (w h : Int) (us : List TL) (hu : us.length ≤ 5000) (p : Nat) (hp : p ≤ B.length) (hq : ¬ p + 5 ≤ B.length) : DPanL Tryz.prog 120 [.loc 0 0, .val (.int .i64 (5 : Int))] [.mix 158 [.val (.int .i64 w), .val (.int .i64 h), .arr 1, .slf 1 (B).length ((B).flatMap uc8), .val (.int .i64 (p : Int))], .arr 84 256 (us).length ((us).flatMap tc)] (.ifc 181 (.val (.agg #[]))) := by
 refine zap (N := 38) 2 (by kernel_rfl) Tryz.func120 rfl rfl rfl (by simp only [fr0, qau, qaw]; exact rfl) rfl fun s0 hs0 => ?_
 refine zah ?_
 refine zaa 1 rfl ?_
 refine zab ?_
 refine zae ?_
 refine qg [([], []), ([], []), ([], []), ([0], []), ([], []), ([], []), ([], []), ([0], []), ([], []), ([], []), ([], []), ([], [])] qU (by kernel_rfl) ?_
 refine zag rfl rfl (zal (.inl rfl) (ev1 rfl)) ?_
 refine zag rfl rfl (qw rfl (ev1 rfl) (fun s v h => by cases h; exact ⟨_, rfl⟩)) ?_
 refine zag rfl rfl (qa rfl kT (ev1 rfl)) ?_
 refine zag rfl rfl (zaq rfl tb3 (ev1 rfl) rfl rfl) ?_
 refine zag rfl rfl (zal (.inl rfl) (ev1 rfl)) ?_
 refine zag rfl rfl (qw rfl (ev1 rfl) (fun s v h => by cases h; exact ⟨_, rfl⟩)) ?_
 refine zag rfl rfl (qa rfl kT (ev1 rfl)) ?_
 refine zag rfl rfl (zaq rfl tb3 (ev1 rfl) rfl rfl) ?_
 refine zag rfl rfl (zal (.inl rfl) (ev1 rfl)) ?_
 refine zag rfl rfl (qh rfl (ev1 rfl) (ev1 rfl) (fun _ => qaC _ (by omega))) ?_
 refine zag rfl rfl (zal (.inr rfl) (ev1 rfl)) ?_
 refine zag rfl rfl (zal (.inr rfl) (ev1 rfl)) ?_
 refine qp ?_
 refine zae ?_
 refine zah ?_
 refine zaa 2 rfl ?_
 refine za rfl (qw rfl (ev1 rfl) (fun s v h => by cases h; exact ⟨_, rfl⟩)) ?_
 refine za rfl (qa rfl jW (ev1 rfl)) ?_
 refine za rfl (zaq rfl kC (ev1 rfl) rfl rfl) ?_
 refine za rfl (qt rfl qu (ev1 rfl)) ?_
 refine za rfl (kE rfl (ev1 rfl) (ev1 rfl)) ?_
 refine zab ?_
 refine qM rfl (by simp; omega) ?_
 refine zac ?_
 refine za rfl (kW rfl Gl zA) ?_
 refine za rfl (xq rfl zy (ev1 rfl)) ?_
 refine qZ rfl (wb rfl (ev1 rfl)) rfl ?_
 refine vf (Mo := [_, _]) [0, 1] rfl rfl ?_ ⟨rfl, rfl, trivial⟩ rfl
 rfl
theorem QG (B : List Int) (hB : B.length ≤ 4000000000000000000) (w h : Int) (us : List TL) (hu : us.length ≤ 5000) (p : Nat) : DFun Tryz.prog 139 [.loc 0 0] [.mix 158 [.val (.int .i64 w), .val (.int .i64 h), .arr 1, .slf 1 (B).length ((B).flatMap uc8), .val (.int .i64 (p : Int))], .arr 84 256 (us).length ((us).flatMap tc)] (.fn (.func 141) [] [.loc 2 0]) [.mix 158 [.val (.int .i64 w), .val (.int .i64 h), .arr 1, .slf 1 (B).length ((B).flatMap uc8), .val (.int .i64 (p : Int))], .arr 84 256 (us).length ((us).flatMap tc), .mix 183 [.loc 0 0]] := by
 refine zap (N := 4) 2 (by kernel_rfl) Tryz.func139 rfl rfl rfl (by simp only [fr0, qau, qaw]; exact rfl) rfl fun s0 hs0 => ?_
 refine zae ?_
 refine zam 1 ?_
 refine zac ?_
 refine zaj rfl (ga 2 rfl (ev1 rfl) (fun s v h => by cases h <;> rfl) rfl) ?_
 refine zaa 1 rfl ?_
 refine zab ?_
 refine zah ?_
 refine za rfl (qV rfl en (ec (ev1 rfl) en)) ?_
 refine zaa 1 rfl ?_
 refine zab ?_
 refine qb ?_
 refine qY [0, 1, 2] (rs1 rfl (qJ rfl)) rfl rfl ?_ ⟨rfl, rfl, rfl, trivial⟩
 rfl
theorem VE : DFun Tryz.prog 97 [.val .nilIface] [] (.val (.bool false)) [] := by
 refine zap (N := 11) 0 (by kernel_rfl) Tryz.func97 rfl rfl rfl (by simp only [fr0, qau, qaw]; exact rfl) rfl fun s0 hs0 => ?_
 refine zah ?_
 refine zaa 1 rfl ?_
 refine zab ?_
 refine zae ?_
 refine zam 1 ?_
 refine zac ?_
 refine zaa 1 rfl ?_
 refine za rfl (K5 rfl zy zv181 (ev1 rfl)) ?_
 refine zaa 3 rfl ?_
 refine zaj rfl (zan 0 rfl zA rfl) ?_
 refine zar rfl (qQ rfl Hl (ev1 rfl) (ev1 rfl) rfl rfl rfl rfl) ?_
 refine zaa 1 rfl ?_
 refine zab ?_
 refine zah ?_
 refine zaa 2 rfl ?_
 refine zab ?_
 refine qb ?_
 refine qx (rs1 rfl (qJ rfl)) rfl ?_
 rfl
theorem Un : DFun Tryz.prog 97 [.ifc 181 (.val (.agg #[]))] [] (.val (.bool true)) [] := by
 refine zap (N := 11) 0 (by kernel_rfl) Tryz.func97 rfl rfl rfl (by simp only [fr0, qau, qaw]; exact rfl) rfl fun s0 hs0 => ?_
 refine zah ?_
 refine zaa 1 rfl ?_
 refine zab ?_
 refine zae ?_
 refine zam 1 ?_
 refine zac ?_
 refine zaa 1 rfl ?_
 refine za rfl (K4 rfl zy (ev1 rfl)) ?_
 refine zaa 3 rfl ?_
 refine zaj rfl (zan 0 rfl zA rfl) ?_
 refine zar rfl (qQ rfl Hl (ev1 rfl) (ev1 rfl) rfl rfl rfl rfl) ?_
 refine zaa 1 rfl ?_
 refine zab ?_
 refine zah ?_
 refine zaa 2 rfl ?_
 refine zab ?_
 refine qb ?_
 refine qx (rs1 rfl (qJ rfl)) rfl ?_
 rfl
end Go.Proofs.YtofklkbfkoliiaaGreat
namespace Go.Proofs.YtofklkbfkoliiaaGreat
set_option linter.unusedVariables false
set_option linter.unusedSimpArgs false
open Go.RowKit
attribute [local irreducible] k8 rdP rdN yc
noncomputable def GD : Code := rfA (pth [1, 0, 1, 1, 1, 0, 1, 0] (y1 Tryz.f133))
noncomputable def GE : Code := rfB (pth [1, 0, 1, 1, 1, 0, 1, 0] (y1 Tryz.f133))
theorem tr_y (acc : List C4) (n : Int) (c : C4) (ha : acc.length < 64) (hm : yc acc n c = true) (hn : acc.length + n.toNat < 64) : DRound Tryz.prog 0 [.val (.agg (runI (n, c)).toArray)] [.lp (some 133) 48 [(3, .loc 1 0), (4, .loc 2 0)] #[8] GD GE .ready none, .flat 84 (tc (k8 acc)), .flat 3 [.int .i64 (acc.length : Int)]] true [.lp (some 133) 48 [(3, .loc 1 0), (4, .loc 2 0)] #[8] GD GE .ready none, .flat 84 (tc (k8 (acc ++ qaJ n.toNat c))), .flat 3 [.int .i64 ((acc.length + n.toNat : Nat) : Int)]] := by
 have hmg := mayG_iff.1 hm
 refine gb 3 rfl rfl (by simp) rfl rfl fun s0 hs0 => ?_
 refine zam 1 ?_
 refine zac ?_
 refine zaj rfl (zan 3 rfl wI rfl) ?_
 refine zar rfl (qQ rfl KB (ev1 rfl) (ev1 rfl) rfl rfl rfl rfl) ?_
 refine zab ?_
 refine ⟨rfl, ?_⟩
 simp only [zad, zaf]
 refine zas ?_
 refine zae ?_
 refine zae ?_
 refine qg [([], []), ([3], []), ([], []), ([], []), ([], []), ([3], []), ([2], []), ([], []), ([], []), ([], []), ([], []), ([2], []), ([], []), ([], []), ([2], []), ([], []), ([], []), ([1], []), ([], []), ([3], []), ([], []), ([], []), ([], [])] qU (by kernel_rfl) ?_
 refine zag rfl rfl (qa rfl gI (ev1 rfl)) ?_
 refine zag rfl rfl (qi rfl tb3 (ev1 rfl) rfl rfl) ?_
 refine zag rfl rfl (qA rfl (ev1 rfl) (ev1 rfl)) ?_
 refine zag rfl rfl (zal (.inl rfl) (ev1 rfl)) ?_
 refine qf (qm rfl rfl rfl) rfl rfl (qa rfl gI (ev1 rfl)) ?_
 refine qf (qm rfl rfl rfl) rfl rfl (qi rfl tb3 (ev2 rfl) rfl rfl) ?_
 refine qf (qm rfl rfl rfl) rfl rfl (qi rfl tb3 (ev1 rfl) rfl rfl) ?_
 refine qf (qm rfl rfl rfl) rfl rfl (jJ rfl (ev1 rfl) (ev2 rfl) (fun hp => qaC _ (by first | omega | (simp at hp; omega)))) ?_
 refine qf (qm rfl rfl rfl) rfl rfl (kE rfl (ev2 rfl) (ev2 rfl)) ?_
 refine zag rfl rfl (kA rfl (ev1 rfl) (ev3 rfl id)) ?_
 refine zag rfl rfl (zal (.inl rfl) (ev1 rfl)) ?_
 refine qf (qm rfl rfl rfl) rfl rfl (qi rfl tb3 (ev1 rfl) rfl rfl) ?_
 refine qf (qm rfl rfl rfl) rfl rfl (kE rfl (ev2 rfl) (ev1 rfl)) ?_
 refine qf (qm rfl rfl rfl) rfl rfl (zal (.inl rfl) (ev2 rfl)) ?_
 refine qf (jo rfl rfl rfl) rfl rfl (qi rfl tb3 (ev1 rfl) rfl rfl) ?_
 refine qf (jo rfl rfl rfl) rfl rfl (jJ rfl (ev2 rfl) (ev1 rfl) (fun hp => qaC _ (by first | omega | (simp at hp; omega)))) ?_
 refine qf (jo rfl rfl rfl) rfl rfl (yn (j := acc.length - 1) rfl z2 (ev1 rfl) (ev2 rfl) (fun hp => by first | omega | (simp at hp; omega)) (fun hp => by first | omega | (simp at hp; omega))) ?_
 refine qf (jo rfl rfl rfl) rfl rfl (uC (zC4) rfl vI (ev2 rfl) rfl (fun _ => rfl) (fun _ => by rw [TL.h]; omega)) ?_
 refine qf (jo rfl rfl rfl) rfl rfl (qa rfl g8 (ev1 rfl)) ?_
 refine qf (jo rfl rfl rfl) rfl rfl (v7 rfl vI (ev2 rfl) rfl rfl rfl) ?_
 refine qf (jo rfl rfl rfl) rfl rfl (vv eq82 rfl gd82 vI (ev2 rfl) (ev2 rfl)) ?_
 refine qf (qm rfl rfl rfl) rfl rfl (q0 rfl (ev2 rfl) (ev2 rfl)) ?_
 refine zag rfl rfl (kA rfl (ev1 rfl) (ev3 rfl id)) ?_
 refine qp ?_
 refine qc rfl ((YK ha).trans (by rw [hm]; rfl)) ?_
 refine zao ?_
 refine zae ?_
 refine zah ?_
 refine za rfl (qa rfl gI (ev1 rfl)) ?_
 refine za rfl (qi rfl tb3 (ev1 rfl) rfl rfl) ?_
 refine zaa 1 rfl ?_
 refine zab ?_
 refine zas ?_
 refine qI ⟨hs0, rfl⟩ (α := Nat) (fun k => [(36, .val (.int .i64 (k : Int)))]) [(3, _), (4, _), (5, _), (35, _)] (fun k => [(1, .flat 84 (tc (k8 (acc ++ qaJ k c)))), (2, .flat 3 [.int .i64 ((acc.length + k : Nat) : Int)])]) [_, .hole, .hole, _] (fun k => k ≤ n.toNat) (fun k => n.toNat - k) 0 [0, 1, 2, 3] (qa5 _) rfl ⟨rfl, rfl, rfl, rfl, trivial⟩ ⟨rfl, trivial⟩ ⟨rfl, by rw [List.replicate_zero, qbk]; rfl, rfl, rfl, trivial⟩ ?_
 intro k hx
 simp only [upd, zad, zaf, qaE, qaH]
 have hk0 := hx
 refine zah ?_
 refine za rfl (qA rfl (ev1 rfl) (ev1 rfl)) ?_
 refine zab ?_
 refine zae ?_
 refine qe rfl (fun c2 => ?_) (fun c2 => ?_)
 ·try simp only [decide_eq_true_eq, decide_eq_false_iff_not, beq_iff_eq, bne_iff_ne, beq_eq_false_iff_ne, bne_eq_false_iff_eq, qaz, qaA, qav, qaB, qax, ne_eq, Decidable.not_not, qaQ, qaR] at c2
  refine zao ?_
  refine zae ?_
  refine zas ?_
  refine zah ?_
  refine za rfl (qi rfl tb3 (ev1 rfl) rfl rfl) ?_
  refine za rfl (qa rfl g8 (ev1 rfl)) ?_
  refine za rfl (v7 rfl vI (ev1 rfl) rfl rfl rfl) ?_
  refine za rfl (yn (j := acc.length + k) rfl z2 (ev1 rfl) (ev1 rfl) (fun _ => by omega) (fun _ => by omega)) ?_
  refine zar rfl (xM rfl vI (ev1 rfl) (ev1 rfl) rfl rfl rfl (fun _ => rfl) (fun _ => by rw [TL.h]; omega)) ?_
  refine zab ?_
  refine zac ?_
  refine za rfl (qi rfl tb3 (ev1 rfl) rfl rfl) ?_
  refine za rfl (qh rfl (ev1 rfl) (ev1 rfl) (fun _ => qaC _ (by omega))) ?_
  refine zar rfl (qH rfl tb3 (ev1 rfl) (ev1 rfl) rfl) ?_
  refine zab ?_
  refine zac ?_
  refine za rfl (qh rfl (ev1 rfl) (ev1 rfl) (fun _ => qaC _ (by omega))) ?_
  refine zaa 1 rfl ?_
  refine zab ?_
  refine ⟨k + 1, [0, 1, 2, 3], by omega, by simp only []; omega, rfl, ⟨rfl, rfl, rfl, rfl, rfl, trivial⟩, ⟨rfl, by rw [WT, GA (by omega)]; rfl, rfl, rfl, trivial⟩⟩
 ·try simp only [decide_eq_true_eq, decide_eq_false_iff_not, beq_iff_eq, bne_iff_ne, beq_eq_false_iff_ne, bne_eq_false_iff_eq, qaz, qaA, qav, qaB, qax, ne_eq, Decidable.not_not, qaQ, qaR] at c2
  refine qr ?_
  refine zah ?_
  refine za rfl (qi rfl tb3 (ev1 rfl) rfl rfl) ?_
  refine za rfl (qv rfl (ev1 rfl) (ev1 rfl)) ?_
  refine zab ?_
  refine qc rfl (by simp; omega) ?_
  refine zao ?_
  obtain rfl : k = n.toNat := by omega
  refine ⟨by first | rfl | assumption | simp_all, rfl, [0, 1, 2], rfl, ⟨rfl, rfl, rfl, trivial⟩⟩
theorem tr_z (acc : List C4) (n : Int) (c : C4) (ha : acc.length < 64) (hm : yc acc n c = true) (hn : acc.length + n.toNat = 64) : DRound Tryz.prog 0 [.val (.agg (runI (n, c)).toArray)] [.lp (some 133) 48 [(3, .loc 1 0), (4, .loc 2 0)] #[8] GD GE .ready none, .flat 84 (tc (k8 acc)), .flat 3 [.int .i64 (acc.length : Int)]] false [.lp (some 133) 48 [(3, .loc 1 0), (4, .loc 2 0)] #[8] GD GE .done (some (.exit 0)), .flat 84 (tc (k8 (acc ++ qaJ n.toNat c))), .flat 3 [.int .i64 ((acc.length + n.toNat : Nat) : Int)]] := by
 have hmg := mayG_iff.1 hm
 refine gb 3 rfl rfl (by simp) rfl rfl fun s0 hs0 => ?_
 refine zam 1 ?_
 refine zac ?_
 refine zaj rfl (zan 3 rfl wI rfl) ?_
 refine zar rfl (qQ rfl KB (ev1 rfl) (ev1 rfl) rfl rfl rfl rfl) ?_
 refine zab ?_
 refine ⟨rfl, ?_⟩
 simp only [zad, zaf]
 refine zas ?_
 refine zae ?_
 refine zae ?_
 refine qg [([], []), ([3], []), ([], []), ([], []), ([], []), ([3], []), ([2], []), ([], []), ([], []), ([], []), ([], []), ([2], []), ([], []), ([], []), ([2], []), ([], []), ([], []), ([1], []), ([], []), ([3], []), ([], []), ([], []), ([], [])] qU (by kernel_rfl) ?_
 refine zag rfl rfl (qa rfl gI (ev1 rfl)) ?_
 refine zag rfl rfl (qi rfl tb3 (ev1 rfl) rfl rfl) ?_
 refine zag rfl rfl (qA rfl (ev1 rfl) (ev1 rfl)) ?_
 refine zag rfl rfl (zal (.inl rfl) (ev1 rfl)) ?_
 refine qf (qm rfl rfl rfl) rfl rfl (qa rfl gI (ev1 rfl)) ?_
 refine qf (qm rfl rfl rfl) rfl rfl (qi rfl tb3 (ev2 rfl) rfl rfl) ?_
 refine qf (qm rfl rfl rfl) rfl rfl (qi rfl tb3 (ev1 rfl) rfl rfl) ?_
 refine qf (qm rfl rfl rfl) rfl rfl (jJ rfl (ev1 rfl) (ev2 rfl) (fun hp => qaC _ (by first | omega | (simp at hp; omega)))) ?_
 refine qf (qm rfl rfl rfl) rfl rfl (kE rfl (ev2 rfl) (ev2 rfl)) ?_
 refine zag rfl rfl (kA rfl (ev1 rfl) (ev3 rfl id)) ?_
 refine zag rfl rfl (zal (.inl rfl) (ev1 rfl)) ?_
 refine qf (qm rfl rfl rfl) rfl rfl (qi rfl tb3 (ev1 rfl) rfl rfl) ?_
 refine qf (qm rfl rfl rfl) rfl rfl (kE rfl (ev2 rfl) (ev1 rfl)) ?_
 refine qf (qm rfl rfl rfl) rfl rfl (zal (.inl rfl) (ev2 rfl)) ?_
 refine qf (jo rfl rfl rfl) rfl rfl (qi rfl tb3 (ev1 rfl) rfl rfl) ?_
 refine qf (jo rfl rfl rfl) rfl rfl (jJ rfl (ev2 rfl) (ev1 rfl) (fun hp => qaC _ (by first | omega | (simp at hp; omega)))) ?_
 refine qf (jo rfl rfl rfl) rfl rfl (yn (j := acc.length - 1) rfl z2 (ev1 rfl) (ev2 rfl) (fun hp => by first | omega | (simp at hp; omega)) (fun hp => by first | omega | (simp at hp; omega))) ?_
 refine qf (jo rfl rfl rfl) rfl rfl (uC (zC4) rfl vI (ev2 rfl) rfl (fun _ => rfl) (fun _ => by rw [TL.h]; omega)) ?_
 refine qf (jo rfl rfl rfl) rfl rfl (qa rfl g8 (ev1 rfl)) ?_
 refine qf (jo rfl rfl rfl) rfl rfl (v7 rfl vI (ev2 rfl) rfl rfl rfl) ?_
 refine qf (jo rfl rfl rfl) rfl rfl (vv eq82 rfl gd82 vI (ev2 rfl) (ev2 rfl)) ?_
 refine qf (qm rfl rfl rfl) rfl rfl (q0 rfl (ev2 rfl) (ev2 rfl)) ?_
 refine zag rfl rfl (kA rfl (ev1 rfl) (ev3 rfl id)) ?_
 refine qp ?_
 refine qc rfl ((YK ha).trans (by rw [hm]; rfl)) ?_
 refine zao ?_
 refine zae ?_
 refine zah ?_
 refine za rfl (qa rfl gI (ev1 rfl)) ?_
 refine za rfl (qi rfl tb3 (ev1 rfl) rfl rfl) ?_
 refine zaa 1 rfl ?_
 refine zab ?_
 refine zas ?_
 refine qI ⟨hs0, rfl⟩ (α := Nat) (fun k => [(36, .val (.int .i64 (k : Int)))]) [(3, _), (4, _), (5, _), (35, _)] (fun k => [(1, .flat 84 (tc (k8 (acc ++ qaJ k c)))), (2, .flat 3 [.int .i64 ((acc.length + k : Nat) : Int)])]) [_, .hole, .hole, _] (fun k => k ≤ n.toNat) (fun k => n.toNat - k) 0 [0, 1, 2, 3] (qa5 _) rfl ⟨rfl, rfl, rfl, rfl, trivial⟩ ⟨rfl, trivial⟩ ⟨rfl, by rw [List.replicate_zero, qbk]; rfl, rfl, rfl, trivial⟩ ?_
 intro k hx
 simp only [upd, zad, zaf, qaE, qaH]
 have hk0 := hx
 refine zah ?_
 refine za rfl (qA rfl (ev1 rfl) (ev1 rfl)) ?_
 refine zab ?_
 refine zae ?_
 refine qe rfl (fun c2 => ?_) (fun c2 => ?_)
 ·try simp only [decide_eq_true_eq, decide_eq_false_iff_not, beq_iff_eq, bne_iff_ne, beq_eq_false_iff_ne, bne_eq_false_iff_eq, qaz, qaA, qav, qaB, qax, ne_eq, Decidable.not_not, qaQ, qaR] at c2
  refine zao ?_
  refine zae ?_
  refine zas ?_
  refine zah ?_
  refine za rfl (qi rfl tb3 (ev1 rfl) rfl rfl) ?_
  refine za rfl (qa rfl g8 (ev1 rfl)) ?_
  refine za rfl (v7 rfl vI (ev1 rfl) rfl rfl rfl) ?_
  refine za rfl (yn (j := acc.length + k) rfl z2 (ev1 rfl) (ev1 rfl) (fun _ => by omega) (fun _ => by omega)) ?_
  refine zar rfl (xM rfl vI (ev1 rfl) (ev1 rfl) rfl rfl rfl (fun _ => rfl) (fun _ => by rw [TL.h]; omega)) ?_
  refine zab ?_
  refine zac ?_
  refine za rfl (qi rfl tb3 (ev1 rfl) rfl rfl) ?_
  refine za rfl (qh rfl (ev1 rfl) (ev1 rfl) (fun _ => qaC _ (by omega))) ?_
  refine zar rfl (qH rfl tb3 (ev1 rfl) (ev1 rfl) rfl) ?_
  refine zab ?_
  refine zac ?_
  refine za rfl (qh rfl (ev1 rfl) (ev1 rfl) (fun _ => qaC _ (by omega))) ?_
  refine zaa 1 rfl ?_
  refine zab ?_
  refine ⟨k + 1, [0, 1, 2, 3], by omega, by simp only []; omega, rfl, ⟨rfl, rfl, rfl, rfl, rfl, trivial⟩, ⟨rfl, by rw [WT, GA (by omega)]; rfl, rfl, rfl, trivial⟩⟩
 ·try simp only [decide_eq_true_eq, decide_eq_false_iff_not, beq_iff_eq, bne_iff_ne, beq_eq_false_iff_ne, bne_eq_false_iff_eq, qaz, qaA, qav, qaB, qax, ne_eq, Decidable.not_not, qaQ, qaR] at c2
  refine qr ?_
  refine zah ?_
  refine za rfl (qi rfl tb3 (ev1 rfl) rfl rfl) ?_
  refine za rfl (qv rfl (ev1 rfl) (ev1 rfl)) ?_
  refine zab ?_
  refine qM rfl (by simp; omega) ?_
  refine qr ?_
  obtain rfl : k = n.toNat := by omega
  refine ⟨by first | rfl | assumption | simp_all, rfl, [0, 1, 2], rfl, ⟨rfl, rfl, rfl, trivial⟩⟩
theorem tr_p (acc : List C4) (n : Int) (c : C4) (ha : acc.length < 64) (hm : yc acc n c = false) : DRoundP Tryz.prog 0 [.val (.agg (runI (n, c)).toArray)] [.lp (some 133) 48 [(3, .loc 1 0), (4, .loc 2 0)] #[8] GD GE .ready none, .flat 84 (tc (k8 acc)), .flat 3 [.int .i64 (acc.length : Int)]] (.ifc 181 (.val (.agg #[]))) [.gone, .gone, .gone] := by
 refine YC 3 Tryz.func133 rfl rfl (by simp) rfl rfl fun s0 hs0 => ?_
 refine zam 1 ?_
 refine zac ?_
 refine zaj rfl (zan 3 rfl wI rfl) ?_
 refine zar rfl (qQ rfl KB (ev1 rfl) (ev1 rfl) rfl rfl rfl rfl) ?_
 refine zab ?_
 refine ⟨rfl, ?_⟩
 simp only [zad, zaf]
 refine zas ?_
 refine zae ?_
 refine zae ?_
 refine qg [([], []), ([3], []), ([], []), ([], []), ([], []), ([3], []), ([2], []), ([], []), ([], []), ([], []), ([], []), ([2], []), ([], []), ([], []), ([2], []), ([], []), ([], []), ([1], []), ([], []), ([3], []), ([], []), ([], []), ([], [])] qU (by kernel_rfl) ?_
 refine zag rfl rfl (qa rfl gI (ev1 rfl)) ?_
 refine zag rfl rfl (qi rfl tb3 (ev1 rfl) rfl rfl) ?_
 refine zag rfl rfl (qA rfl (ev1 rfl) (ev1 rfl)) ?_
 refine zag rfl rfl (zal (.inl rfl) (ev1 rfl)) ?_
 refine qf (qm rfl rfl rfl) rfl rfl (qa rfl gI (ev1 rfl)) ?_
 refine qf (qm rfl rfl rfl) rfl rfl (qi rfl tb3 (ev2 rfl) rfl rfl) ?_
 refine qf (qm rfl rfl rfl) rfl rfl (qi rfl tb3 (ev1 rfl) rfl rfl) ?_
 refine qf (qm rfl rfl rfl) rfl rfl (jJ rfl (ev1 rfl) (ev2 rfl) (fun hp => qaC _ (by first | omega | (simp at hp; omega)))) ?_
 refine qf (qm rfl rfl rfl) rfl rfl (kE rfl (ev2 rfl) (ev2 rfl)) ?_
 refine zag rfl rfl (kA rfl (ev1 rfl) (ev3 rfl id)) ?_
 refine zag rfl rfl (zal (.inl rfl) (ev1 rfl)) ?_
 refine qf (qm rfl rfl rfl) rfl rfl (qi rfl tb3 (ev1 rfl) rfl rfl) ?_
 refine qf (qm rfl rfl rfl) rfl rfl (kE rfl (ev2 rfl) (ev1 rfl)) ?_
 refine qf (qm rfl rfl rfl) rfl rfl (zal (.inl rfl) (ev2 rfl)) ?_
 refine qf (jo rfl rfl rfl) rfl rfl (qi rfl tb3 (ev1 rfl) rfl rfl) ?_
 refine qf (jo rfl rfl rfl) rfl rfl (jJ rfl (ev2 rfl) (ev1 rfl) (fun hp => qaC _ (by first | omega | (simp at hp; omega)))) ?_
 refine qf (jo rfl rfl rfl) rfl rfl (yn (j := acc.length - 1) rfl z2 (ev1 rfl) (ev2 rfl) (fun hp => by first | omega | (simp at hp; omega)) (fun hp => by first | omega | (simp at hp; omega))) ?_
 refine qf (jo rfl rfl rfl) rfl rfl (uC (zC4) rfl vI (ev2 rfl) rfl (fun _ => rfl) (fun _ => by rw [TL.h]; omega)) ?_
 refine qf (jo rfl rfl rfl) rfl rfl (qa rfl g8 (ev1 rfl)) ?_
 refine qf (jo rfl rfl rfl) rfl rfl (v7 rfl vI (ev2 rfl) rfl rfl rfl) ?_
 refine qf (jo rfl rfl rfl) rfl rfl (vv eq82 rfl gd82 vI (ev2 rfl) (ev2 rfl)) ?_
 refine qf (qm rfl rfl rfl) rfl rfl (q0 rfl (ev2 rfl) (ev2 rfl)) ?_
 refine zag rfl rfl (kA rfl (ev1 rfl) (ev3 rfl id)) ?_
 refine qp ?_
 refine qM rfl ((YK ha).trans (by rw [hm]; rfl)) ?_
 refine zac ?_
 refine za rfl (kW rfl Gl zA) ?_
 refine za rfl (xq rfl zy (ev1 rfl)) ?_
 refine qZ rfl (wb rfl (ev1 rfl)) rfl ?_
 refine ⟨[0, 1, 2], [_, _, _], rfl, rfl, ⟨rfl, rfl, rfl, trivial⟩, rfl⟩
end Go.Proofs.YtofklkbfkoliiaaGreat
namespace Go.Proofs.YtofklkbfkoliiaaGreat
set_option linter.unusedVariables false
set_option linter.unusedSimpArgs false
open Go.RowKit
attribute [local irreducible] k8 rdP rdN yc
theorem VF (B : List Int) (hB : B.length ≤ 4000000000000000000) (w h : Int) (us : List TL) (hu : us.length ≤ 5000) (hi : isB B) (p0 : Nat) (hp : p0 ≤ B.length) (l : List C4) (q : Nat) (h0 : rdN B p0 = some (l, q)) : DFun Tryz.prog 141 [.yld 0, .loc 3 0] [.lp (some 133) 48 [(3, .loc 1 0), (4, .loc 2 0)] #[8] GD GE .ready none, .flat 84 (tc zT), .flat 3 [.int .i64 0], .mix 183 [.loc 4 0], .mix 158 [.val (.int .i64 w), .val (.int .i64 h), .arr 5, .slf 1 (B).length ((B).flatMap uc8), .val (.int .i64 (p0 : Int))], .arr 84 256 (us).length ((us).flatMap tc)] (.tup []) [.lp (some 133) 48 [(3, .loc 1 0), (4, .loc 2 0)] #[8] GD GE .done (some (.exit 0)), .flat 84 (tc (k8 l)), .flat 3 [.int .i64 64], .mix 183 [.loc 4 0], .mix 158 [.val (.int .i64 w), .val (.int .i64 h), .arr 5, .slf 1 (B).length ((B).flatMap uc8), .val (.int .i64 (q : Int))], .arr 84 256 (us).length ((us).flatMap tc)] := by
 refine zap (N := 27) 6 (by kernel_rfl) Tryz.func141 rfl rfl rfl (by simp only [fr0, qau, qaw]; exact rfl) rfl fun s0 hs0 => ?_
 refine zas ?_
 refine qI ⟨hs0, rfl⟩ (α := Nat × List C4 × Nat) (fun x => []) [(0, _), (1, _)] (fun x => [(1, .flat 84 (tc (k8 x.2.1))), (2, .flat 3 [.int .i64 (x.2.1.length : Int)]), (4, .mix 158 [.val (.int .i64 w), .val (.int .i64 h), .arr 5, .slf 1 (B).length ((B).flatMap uc8), .val (.int .i64 (x.2.2 : Int))])]) [_, .hole, .hole, _, .hole, _] (fun x => x.2.1.length < 64 ∧ x.2.2 ≤ B.length ∧ rdP B x.1 x.2.1 x.2.2 = some (l, q)) (fun x => 64 - x.2.1.length) (64, [], p0) [0, 1, 2, 3, 4, 5] (⟨by show 0 < 64; decide, hp, by unfold rdN at h0; exact h0⟩) rfl ⟨rfl, rfl, trivial⟩ trivial ⟨rfl, by rw [Gz]; rfl, rfl, rfl, rfl, rfl, trivial⟩ ?_
 intro x hx
 simp only [upd, zad, zaf, qaE, qaH]
 obtain ⟨f, acc, p⟩ := x
 obtain ⟨ha, hpl, hrd⟩ := hx
 dsimp only at ha hpl hrd ⊢
 obtain ⟨h5, hm, hz, hy⟩ := GB hrd
 have hmg := (mayG_iff.1 hm).1
 refine zas ?_
 refine zah ?_
 refine za rfl (zaq rfl W4 (ev1 rfl) rfl rfl) ?_
 refine zaj rfl (zai [4, 5] [] [] rfl (ev1 rfl) (ec (ev1 rfl) (ec (ev1 rfl) en)) rfl rfl (Um B hB w h us hu p h5) rfl rfl rfl rfl rfl rfl) ?_
 refine zaa 1 rfl ?_
 refine zab ?_
 refine zae ?_
 by_cases hd : acc.length + (kw B p).1.toNat = 64
 ·refine qg [([], []), ([], []), ([], []), ([], []), ([], []), ([], []), ([], []), ([], []), ([], []), ([], []), ([], []), ([], []), ([], []), ([], []), ([], []), ([], []), ([], []), ([], []), ([], []), ([0, 1, 2], [0, 1, 2]), ([], [])] qU (by kernel_rfl) ?_
  refine zag rfl rfl (zal (.inl rfl) (ev1 rfl)) ?_
  refine zag rfl rfl (zal (.inl rfl) (ev1 rfl)) ?_
  refine zag rfl rfl (qP (l := (yO B p)) (en := uc8) (j := 0) rfl qu (ev1 rfl) (ev1 rfl) (fun _ => rfl) (by decide) rfl (qa3 (qaF rfl))) ?_
  refine zag rfl rfl ((qS rfl tb5 (ev1 rfl) rfl).wk (Wk.of_eq (d' := .val (.int .u8 (bAt B p))) rfl)) ?_
  refine zag rfl rfl (jZ ty5 kn3 rfl (ev1 rfl) (fun _ => by have := wj hi p; exact qaC _ (by omega))) ?_
  refine zag rfl rfl (zal (.inl rfl) (ev1 rfl)) ?_
  refine zag rfl rfl (qP (l := (yO B p)) (en := uc8) (j := 1) rfl qu (ev1 rfl) (ev1 rfl) (fun _ => rfl) (by decide) rfl (qa3 (qaF rfl))) ?_
  refine zag rfl rfl (qS rfl tb5 (ev1 rfl) rfl) ?_
  refine zag rfl rfl (zal (.inl rfl) (ev1 rfl)) ?_
  refine zag rfl rfl (qP (l := (yO B p)) (en := uc8) (j := 2) rfl qu (ev1 rfl) (ev1 rfl) (fun _ => rfl) (by decide) rfl (qa3 (qaF rfl))) ?_
  refine zag rfl rfl (qS rfl tb5 (ev1 rfl) rfl) ?_
  refine zag rfl rfl (zal (.inl rfl) (ev1 rfl)) ?_
  refine zag rfl rfl (qP (l := (yO B p)) (en := uc8) (j := 3) rfl qu (ev1 rfl) (ev1 rfl) (fun _ => rfl) (by decide) rfl (qa3 (qaF rfl))) ?_
  refine zag rfl rfl (qS rfl tb5 (ev1 rfl) rfl) ?_
  refine zag rfl rfl (zal (.inl rfl) (ev1 rfl)) ?_
  refine zag rfl rfl (qP (l := (yO B p)) (en := uc8) (j := 4) rfl qu (ev1 rfl) (ev1 rfl) (fun _ => rfl) (by decide) rfl (qa3 (qaF rfl))) ?_
  refine zag rfl rfl (qS rfl tb5 (ev1 rfl) rfl) ?_
  refine zag rfl rfl (kU (ps := [(0, .tmp 13), (1, .tmp 16), (2, .tmp 19), (3, .tmp 22)]) rfl W1 W8 (vc (ev1 rfl) (vc (ev1 rfl) (vc (ev1 rfl) (vc (ev1 rfl) vn)))) rfl rfl) ?_
  refine zag rfl rfl (kU (ps := [(0, .tmp 10), (1, .tmp 23)]) rfl Gm wI (vc (ev1 rfl) (vc (ev1 rfl) vn)) rfl rfl) ?_
  refine gf rfl rfl (u6 (i := 0) [0, 1, 2] [] [] rfl (ev1 rfl) (ec (ev1 rfl) en) rfl rfl rfl (tr_z acc (bAt B p) (kw B p).2 ha hm hd) rfl rfl rfl rfl rfl) rfl (by simp only [upd, zad, zaf]; exact rfl) ?_
  refine zag rfl rfl (ko rfl (ev1 rfl)) ?_
  refine qp ?_
  refine qM rfl (rfl) ?_
  refine qb ?_
  obtain ⟨rfl, rfl⟩ := hz hd
  have hd2 : acc.length + (bAt B p).toNat = 64 := hd
  rw [hd2]
  refine qY [0, 1, 2, 3, 4, 5] (qF rfl) rfl rfl ?_ ⟨rfl, rfl, rfl, rfl, rfl, rfl, trivial⟩
  rfl
 ·have hmn : (kw B p).1 = bAt B p := rfl
  refine qg [([], []), ([], []), ([], []), ([], []), ([], []), ([], []), ([], []), ([], []), ([], []), ([], []), ([], []), ([], []), ([], []), ([], []), ([], []), ([], []), ([], []), ([], []), ([], []), ([0, 1, 2], [0, 1, 2]), ([], [])] qU (by kernel_rfl) ?_
  refine zag rfl rfl (zal (.inl rfl) (ev1 rfl)) ?_
  refine zag rfl rfl (zal (.inl rfl) (ev1 rfl)) ?_
  refine zag rfl rfl (qP (l := (yO B p)) (en := uc8) (j := 0) rfl qu (ev1 rfl) (ev1 rfl) (fun _ => rfl) (by decide) rfl (qa3 (qaF rfl))) ?_
  refine zag rfl rfl ((qS rfl tb5 (ev1 rfl) rfl).wk (Wk.of_eq (d' := .val (.int .u8 (bAt B p))) rfl)) ?_
  refine zag rfl rfl (jZ ty5 kn3 rfl (ev1 rfl) (fun _ => by have := wj hi p; exact qaC _ (by omega))) ?_
  refine zag rfl rfl (zal (.inl rfl) (ev1 rfl)) ?_
  refine zag rfl rfl (qP (l := (yO B p)) (en := uc8) (j := 1) rfl qu (ev1 rfl) (ev1 rfl) (fun _ => rfl) (by decide) rfl (qa3 (qaF rfl))) ?_
  refine zag rfl rfl (qS rfl tb5 (ev1 rfl) rfl) ?_
  refine zag rfl rfl (zal (.inl rfl) (ev1 rfl)) ?_
  refine zag rfl rfl (qP (l := (yO B p)) (en := uc8) (j := 2) rfl qu (ev1 rfl) (ev1 rfl) (fun _ => rfl) (by decide) rfl (qa3 (qaF rfl))) ?_
  refine zag rfl rfl (qS rfl tb5 (ev1 rfl) rfl) ?_
  refine zag rfl rfl (zal (.inl rfl) (ev1 rfl)) ?_
  refine zag rfl rfl (qP (l := (yO B p)) (en := uc8) (j := 3) rfl qu (ev1 rfl) (ev1 rfl) (fun _ => rfl) (by decide) rfl (qa3 (qaF rfl))) ?_
  refine zag rfl rfl (qS rfl tb5 (ev1 rfl) rfl) ?_
  refine zag rfl rfl (zal (.inl rfl) (ev1 rfl)) ?_
  refine zag rfl rfl (qP (l := (yO B p)) (en := uc8) (j := 4) rfl qu (ev1 rfl) (ev1 rfl) (fun _ => rfl) (by decide) rfl (qa3 (qaF rfl))) ?_
  refine zag rfl rfl (qS rfl tb5 (ev1 rfl) rfl) ?_
  refine zag rfl rfl (kU (ps := [(0, .tmp 13), (1, .tmp 16), (2, .tmp 19), (3, .tmp 22)]) rfl W1 W8 (vc (ev1 rfl) (vc (ev1 rfl) (vc (ev1 rfl) (vc (ev1 rfl) vn)))) rfl rfl) ?_
  refine zag rfl rfl (kU (ps := [(0, .tmp 10), (1, .tmp 23)]) rfl Gm wI (vc (ev1 rfl) (vc (ev1 rfl) vn)) rfl rfl) ?_
  refine gf rfl rfl (u6 (i := 0) [0, 1, 2] [] [] rfl (ev1 rfl) (ec (ev1 rfl) en) rfl rfl rfl (tr_y acc (bAt B p) (kw B p).2 ha hm (by omega)) rfl rfl rfl rfl rfl) rfl (by simp only [upd, zad, zaf]; exact rfl) ?_
  refine zag rfl rfl (ko rfl (ev1 rfl)) ?_
  refine qp ?_
  refine qc rfl (rfl) ?_
  refine zao ?_
  refine ⟨(f - 1, acc ++ qaJ (kw B p).1.toNat (kw B p).2, p + 5), [0, 1, 2, 3, 4, 5], ⟨by simp only [qaD, qaS]; omega, h5, hy hd⟩, by simp only [qaD, qaS]; omega, rfl, ⟨rfl, rfl, trivial⟩, ⟨rfl, rfl, by rw [qaD, qaS]; rfl, rfl, rfl, rfl, trivial⟩⟩
theorem VG (B : List Int) (hB : B.length ≤ 4000000000000000000) (w h : Int) (us : List TL) (hu : us.length ≤ 5000) (hi : isB B) (p0 : Nat) (hp : p0 ≤ B.length) (h0 : rdN B p0 = none) : DPanL Tryz.prog 141 [.yld 0, .loc 3 0] [.lp (some 133) 48 [(3, .loc 1 0), (4, .loc 2 0)] #[8] GD GE .ready none, .flat 84 (tc zT), .flat 3 [.int .i64 0], .mix 183 [.loc 4 0], .mix 158 [.val (.int .i64 w), .val (.int .i64 h), .arr 5, .slf 1 (B).length ((B).flatMap uc8), .val (.int .i64 (p0 : Int))], .arr 84 256 (us).length ((us).flatMap tc)] (.ifc 181 (.val (.agg #[]))) := by
 refine zap (N := 27) 6 (by kernel_rfl) Tryz.func141 rfl rfl rfl (by simp only [fr0, qau, qaw]; exact rfl) rfl fun s0 hs0 => ?_
 refine zas ?_
 refine qI ⟨hs0, rfl⟩ (α := Nat × List C4 × Nat) (fun x => []) [(0, _), (1, _)] (fun x => [(1, .flat 84 (tc (k8 x.2.1))), (2, .flat 3 [.int .i64 (x.2.1.length : Int)]), (4, .mix 158 [.val (.int .i64 w), .val (.int .i64 h), .arr 5, .slf 1 (B).length ((B).flatMap uc8), .val (.int .i64 (x.2.2 : Int))])]) [_, .hole, .hole, _, .hole, _] (fun x => x.2.1.length < 64 ∧ x.2.2 ≤ B.length ∧ 64 ≤ x.1 + x.2.1.length ∧ rdP B x.1 x.2.1 x.2.2 = none) (fun x => 64 - x.2.1.length) (64, [], p0) [0, 1, 2, 3, 4, 5] (⟨by show 0 < 64; decide, hp, qaO 64, by unfold rdN at h0; exact h0⟩) rfl ⟨rfl, rfl, trivial⟩ trivial ⟨rfl, by rw [Gz]; rfl, rfl, rfl, rfl, rfl, trivial⟩ ?_
 intro x hx
 simp only [upd, zad, zaf, qaE, qaH]
 obtain ⟨f, acc, p⟩ := x
 obtain ⟨ha, hpl, hf, hrd⟩ := hx
 dsimp only at ha hpl hf hrd ⊢
 refine zas ?_
 refine zae ?_
 by_cases h5 : p + 5 ≤ B.length
 ·refine zac ?_
  refine za rfl (zaq rfl W4 (ev1 rfl) rfl rfl) ?_
  refine zaj rfl (zai [4, 5] [] [] rfl (ev1 rfl) (ec (ev1 rfl) (ec (ev1 rfl) en)) rfl rfl (Um B hB w h us hu p h5) rfl rfl rfl rfl rfl rfl) ?_
  refine zaa 1 rfl ?_
  refine zab ?_
  refine zae ?_
  by_cases hm : yc acc (kw B p).1 (kw B p).2 = true
  ·have hmn : (kw B p).1 = bAt B p := rfl
   obtain ⟨hn1, hn2, hn3⟩ := Ui hf ha hrd h5 hm
   have hmg := (mayG_iff.1 hm).1
   refine qg [([], []), ([], []), ([], []), ([], []), ([], []), ([], []), ([], []), ([], []), ([], []), ([], []), ([], []), ([], []), ([], []), ([], []), ([], []), ([], []), ([], []), ([], []), ([], []), ([0, 1, 2], [0, 1, 2]), ([], [])] qU (by kernel_rfl) ?_
   refine zag rfl rfl (zal (.inl rfl) (ev1 rfl)) ?_
   refine zag rfl rfl (zal (.inl rfl) (ev1 rfl)) ?_
   refine zag rfl rfl (qP (l := (yO B p)) (en := uc8) (j := 0) rfl qu (ev1 rfl) (ev1 rfl) (fun _ => rfl) (by decide) rfl (qa3 (qaF rfl))) ?_
   refine zag rfl rfl ((qS rfl tb5 (ev1 rfl) rfl).wk (Wk.of_eq (d' := .val (.int .u8 (bAt B p))) rfl)) ?_
   refine zag rfl rfl (jZ ty5 kn3 rfl (ev1 rfl) (fun _ => by have := wj hi p; exact qaC _ (by omega))) ?_
   refine zag rfl rfl (zal (.inl rfl) (ev1 rfl)) ?_
   refine zag rfl rfl (qP (l := (yO B p)) (en := uc8) (j := 1) rfl qu (ev1 rfl) (ev1 rfl) (fun _ => rfl) (by decide) rfl (qa3 (qaF rfl))) ?_
   refine zag rfl rfl (qS rfl tb5 (ev1 rfl) rfl) ?_
   refine zag rfl rfl (zal (.inl rfl) (ev1 rfl)) ?_
   refine zag rfl rfl (qP (l := (yO B p)) (en := uc8) (j := 2) rfl qu (ev1 rfl) (ev1 rfl) (fun _ => rfl) (by decide) rfl (qa3 (qaF rfl))) ?_
   refine zag rfl rfl (qS rfl tb5 (ev1 rfl) rfl) ?_
   refine zag rfl rfl (zal (.inl rfl) (ev1 rfl)) ?_
   refine zag rfl rfl (qP (l := (yO B p)) (en := uc8) (j := 3) rfl qu (ev1 rfl) (ev1 rfl) (fun _ => rfl) (by decide) rfl (qa3 (qaF rfl))) ?_
   refine zag rfl rfl (qS rfl tb5 (ev1 rfl) rfl) ?_
   refine zag rfl rfl (zal (.inl rfl) (ev1 rfl)) ?_
   refine zag rfl rfl (qP (l := (yO B p)) (en := uc8) (j := 4) rfl qu (ev1 rfl) (ev1 rfl) (fun _ => rfl) (by decide) rfl (qa3 (qaF rfl))) ?_
   refine zag rfl rfl (qS rfl tb5 (ev1 rfl) rfl) ?_
   refine zag rfl rfl (kU (ps := [(0, .tmp 13), (1, .tmp 16), (2, .tmp 19), (3, .tmp 22)]) rfl W1 W8 (vc (ev1 rfl) (vc (ev1 rfl) (vc (ev1 rfl) (vc (ev1 rfl) vn)))) rfl rfl) ?_
   refine zag rfl rfl (kU (ps := [(0, .tmp 10), (1, .tmp 23)]) rfl Gm wI (vc (ev1 rfl) (vc (ev1 rfl) vn)) rfl rfl) ?_
   refine gf rfl rfl (u6 (i := 0) [0, 1, 2] [] [] rfl (ev1 rfl) (ec (ev1 rfl) en) rfl rfl rfl (tr_y acc (bAt B p) (kw B p).2 ha hm (by omega)) rfl rfl rfl rfl rfl) rfl (by simp only [upd, zad, zaf]; exact rfl) ?_
   refine zag rfl rfl (ko rfl (ev1 rfl)) ?_
   refine qp ?_
   refine qc rfl (rfl) ?_
   refine zao ?_
   refine ⟨(f - 1, acc ++ qaJ (kw B p).1.toNat (kw B p).2, p + 5), [0, 1, 2, 3, 4, 5], ⟨by simp only [qaD, qaS]; exact hn1, h5, by simp only [qaD, qaS]; exact hn2, hn3⟩, by simp only [qaD, qaS]; omega, rfl, ⟨rfl, rfl, trivial⟩, ⟨rfl, rfl, by rw [qaD, qaS]; rfl, rfl, rfl, rfl, trivial⟩⟩
  ·have hm : yc acc (kw B p).1 (kw B p).2 = false := by simpa using hm
   refine yz 19 [([], []), ([], []), ([], []), ([], []), ([], []), ([], []), ([], []), ([], []), ([], []), ([], []), ([], []), ([], []), ([], []), ([], []), ([], []), ([], []), ([], []), ([], []), ([], [])] qU (by kernel_rfl) rfl rfl ?_
   refine zag rfl rfl (zal (.inl rfl) (ev1 rfl)) ?_
   refine zag rfl rfl (zal (.inl rfl) (ev1 rfl)) ?_
   refine zag rfl rfl (qP (l := (yO B p)) (en := uc8) (j := 0) rfl qu (ev1 rfl) (ev1 rfl) (fun _ => rfl) (by decide) rfl (qa3 (qaF rfl))) ?_
   refine zag rfl rfl ((qS rfl tb5 (ev1 rfl) rfl).wk (Wk.of_eq (d' := .val (.int .u8 (bAt B p))) rfl)) ?_
   refine zag rfl rfl (jZ ty5 kn3 rfl (ev1 rfl) (fun _ => by have := wj hi p; exact qaC _ (by omega))) ?_
   refine zag rfl rfl (zal (.inl rfl) (ev1 rfl)) ?_
   refine zag rfl rfl (qP (l := (yO B p)) (en := uc8) (j := 1) rfl qu (ev1 rfl) (ev1 rfl) (fun _ => rfl) (by decide) rfl (qa3 (qaF rfl))) ?_
   refine zag rfl rfl (qS rfl tb5 (ev1 rfl) rfl) ?_
   refine zag rfl rfl (zal (.inl rfl) (ev1 rfl)) ?_
   refine zag rfl rfl (qP (l := (yO B p)) (en := uc8) (j := 2) rfl qu (ev1 rfl) (ev1 rfl) (fun _ => rfl) (by decide) rfl (qa3 (qaF rfl))) ?_
   refine zag rfl rfl (qS rfl tb5 (ev1 rfl) rfl) ?_
   refine zag rfl rfl (zal (.inl rfl) (ev1 rfl)) ?_
   refine zag rfl rfl (qP (l := (yO B p)) (en := uc8) (j := 3) rfl qu (ev1 rfl) (ev1 rfl) (fun _ => rfl) (by decide) rfl (qa3 (qaF rfl))) ?_
   refine zag rfl rfl (qS rfl tb5 (ev1 rfl) rfl) ?_
   refine zag rfl rfl (zal (.inl rfl) (ev1 rfl)) ?_
   refine zag rfl rfl (qP (l := (yO B p)) (en := uc8) (j := 4) rfl qu (ev1 rfl) (ev1 rfl) (fun _ => rfl) (by decide) rfl (qa3 (qaF rfl))) ?_
   refine zag rfl rfl (qS rfl tb5 (ev1 rfl) rfl) ?_
   refine zag rfl rfl (kU (ps := [(0, .tmp 13), (1, .tmp 16), (2, .tmp 19), (3, .tmp 22)]) rfl W1 W8 (vc (ev1 rfl) (vc (ev1 rfl) (vc (ev1 rfl) (vc (ev1 rfl) vn)))) rfl rfl) ?_
   refine zag rfl rfl (kU (ps := [(0, .tmp 10), (1, .tmp 23)]) rfl Gm wI (vc (ev1 rfl) (vc (ev1 rfl) vn)) rfl rfl) ?_
   refine qp ⟨_, _, _, rfl, op_yP (i := 0) [0, 1, 2] [] [] rfl (ev1 rfl) (ec (ev1 rfl) en) rfl rfl rfl (tr_p acc (bAt B p) (kw B p).2 ha hm) rfl rfl rfl rfl rfl rfl, ?_⟩
   refine vf (Mo := [_, _, _, _, _, _]) [0, 1, 2, 3, 4, 5] rfl rfl ?_ ⟨rfl, rfl, rfl, rfl, rfl, rfl, trivial⟩ rfl
   rfl
 ·refine zac ?_
  refine za rfl (zaq rfl W4 (ev1 rfl) rfl rfl) ?_
  refine qZ rfl (qE [4, 5] [] [] rfl (ev1 rfl) (ec (ev1 rfl) (ec (ev1 rfl) en)) rfl rfl ((VD B hB w h us hu p hpl h5).dead) rfl rfl rfl rfl rfl rfl) rfl ?_
  refine vf (Mo := [_, _, _, _, _, _]) [0, 1, 2, 3, 4, 5] rfl rfl ?_ ⟨rfl, rfl, rfl, rfl, rfl, rfl, trivial⟩ rfl
  rfl
theorem QH (B : List Int) (hB : B.length ≤ 4000000000000000000) (w h : Int) (us : List TL) (hu : us.length ≤ 5000) (hi : isB B) (p0 : Nat) (hp : p0 ≤ B.length) (l : List C4) (q : Nat) (h0 : rdN B p0 = some (l, q)) : DFun Tryz.prog 133 [.loc 0 0] [.mix 158 [.val (.int .i64 w), .val (.int .i64 h), .arr 1, .slf 1 (B).length ((B).flatMap uc8), .val (.int .i64 (p0 : Int))], .arr 84 256 (us).length ((us).flatMap tc)] (.val (.agg (tc (k8 l)).toArray)) [.mix 158 [.val (.int .i64 w), .val (.int .i64 h), .arr 1, .slf 1 (B).length ((B).flatMap uc8), .val (.int .i64 (q : Int))], .arr 84 256 (us).length ((us).flatMap tc)] := by
 refine zw (N := 48) 2 (by kernel_rfl) Tryz.func133 rfl rfl rfl (by simp only [fr0, qau, qaw]; exact rfl) rfl fun s0 hs0 => ?_
 refine jN ?_
 refine gH ?_
 refine zam 1 ?_
 refine zac ?_
 refine zaj rfl (zan 2 rfl yN rfl) ?_
 refine zab ?_
 refine zu ?_
 refine jN ?_
 refine gH ?_
 refine zam 1 ?_
 refine zac ?_
 refine zaj rfl (zan 3 rfl yN rfl) ?_
 refine zab ?_
 refine jN ?_
 refine gH ?_
 refine zam 1 ?_
 refine zac ?_
 refine zaj rfl (zan 4 rfl zr3 rfl) ?_
 refine zar rfl (qH rfl tb3 (ev1 rfl) (ev1 rfl) rfl) ?_
 refine zab ?_
 refine jN ?_
 refine gH ?_
 refine gR ?_
 refine jN ?_
 refine jN ?_
 refine gH ?_
 refine zam 1 ?_
 refine zac ?_
 refine zaa 1 rfl ?_
 refine zaj rfl (zai [0, 1] [] [5] rfl (ev1 rfl) (ec (ev1 rfl) en) rfl rfl (QG B hB w h us hu p0) rfl rfl rfl rfl rfl rfl) ?_
 refine zab ?_
 refine zt ?_
 refine Ky ?_
 simp only [qaE, qaH]
 refine WQ (FL := [(3, _), (4, _)]) (st := .done) (pe := (some (.exit 0))) [6, 3, 4, 5, 0, 1] [] [] 6 rfl rfl (ev1 rfl) rfl (yl ⟨rfl, rfl, trivial⟩) rfl rfl rfl (VF B hB w h us hu hi p0 hp l q h0) rfl rfl rfl rfl rfl rfl rfl (by simp) (fun e => ?_) (fun c e => ?_)
 ·cases e
 ·cases e
  simp only [upd, zad, zaf]
  refine qr ?_
  refine gH ?_
  refine zah ?_
  refine za rfl (kv rfl jg (ev1 rfl) rfl (qy _)) ?_
  refine zar rfl (qQ rfl jg (ev1 rfl) (ev1 rfl) rfl (qy _) (yj _) ((qy _).trans (qy _).symm)) ?_
  refine zab ?_
  refine qb ?_
  refine qY [0, 1] (rs1 rfl (yM jg rfl rfl (qy _))) rfl rfl ?_ ⟨rfl, rfl, trivial⟩
  rfl
theorem X9 (B : List Int) (hB : B.length ≤ 4000000000000000000) (w h : Int) (us : List TL) (hu : us.length ≤ 5000) (hi : isB B) (p0 : Nat) (hp : p0 ≤ B.length) (h0 : rdN B p0 = none) : DPanL Tryz.prog 133 [.loc 0 0] [.mix 158 [.val (.int .i64 w), .val (.int .i64 h), .arr 1, .slf 1 (B).length ((B).flatMap uc8), .val (.int .i64 (p0 : Int))], .arr 84 256 (us).length ((us).flatMap tc)] (.ifc 181 (.val (.agg #[]))) := by
 refine zw (N := 48) 2 (by kernel_rfl) Tryz.func133 rfl rfl rfl (by simp only [fr0, qau, qaw]; exact rfl) rfl fun s0 hs0 => ?_
 refine jN ?_
 refine gH ?_
 refine zam 1 ?_
 refine zac ?_
 refine zaj rfl (zan 2 rfl yN rfl) ?_
 refine zab ?_
 refine zu ?_
 refine jN ?_
 refine gH ?_
 refine zam 1 ?_
 refine zac ?_
 refine zaj rfl (zan 3 rfl yN rfl) ?_
 refine zab ?_
 refine jN ?_
 refine gH ?_
 refine zam 1 ?_
 refine zac ?_
 refine zaj rfl (zan 4 rfl zr3 rfl) ?_
 refine zar rfl (qH rfl tb3 (ev1 rfl) (ev1 rfl) rfl) ?_
 refine zab ?_
 refine jN ?_
 refine gH ?_
 refine gR ?_
 refine jN ?_
 refine jN ?_
 refine gH ?_
 refine zam 1 ?_
 refine zac ?_
 refine zaa 1 rfl ?_
 refine zaj rfl (zai [0, 1] [] [5] rfl (ev1 rfl) (ec (ev1 rfl) en) rfl rfl (QG B hB w h us hu p0) rfl rfl rfl rfl rfl rfl) ?_
 refine zab ?_
 refine zt ?_
 refine Ky ?_
 simp only [qaE, qaH]
 refine WR (FL := [(3, _), (4, _)]) [6, 3, 4, 5, 0, 1] [] [] 6 rfl rfl (ev1 rfl) rfl (yl ⟨rfl, rfl, trivial⟩) rfl rfl rfl ((VG B hB w h us hu hi p0 hp h0).dead) rfl rfl rfl rfl rfl rfl rfl ?_
 simp only [upd, zad, zaf]
 refine vf (Mo := [_, _]) [0, 1] rfl rfl ?_ ⟨rfl, rfl, trivial⟩ rfl
 rfl
end Go.Proofs.YtofklkbfkoliiaaGreat
namespace Go.Proofs.YtofklkbfkoliiaaGreat
set_option linter.unusedVariables false
set_option linter.unusedSimpArgs false
open Go.RowKit
attribute [local irreducible] k8 rdP rdN yc
theorem AD {I : Nat → Prop} {w h : Int} {ts : List TL} {d : D} (hf : Okd (NewCv I w h ts) d) : Wk d (.tup [cvD w h (dpR ts), .val (.int .i64 0)]) := by
 obtain ⟨_, ⟨A, hA, _, rfl⟩, rfl⟩ := hf
 exact Wk.tup (.cons ((zC hA).wkd w h) (.cons (.refl _) .nil))
theorem AE (w h : Int) (n : Nat) (hm : gN w h = true) (hn : w * h = (n : Int)) : DFun Tryz.prog 121 [.val (.int .i64 w), .val (.int .i64 h)] [] (.tup [cvD w h (dpR (qaJ n (nT zC4))), .val (.int .i64 0)]) [] := (AA w h n hm hn).fun fun I d hf => AD hf
theorem GF (B : List Int) (hB : B.length ≤ 4000000000000000000) (hi : isB B) (n : Nat) (h2 : 0 + 2 ≤ B.length) (hm : gN (bAt B 0) (bAt B 1) = true) (hn : bAt B 0 * bAt B 1 = (n : Int)) : DFun Tryz.prog 98 [.loc 0 0] [.mix 158 [.val (.int .i64 0), .val (.int .i64 0), .val (.slice none 0 0), .slf 1 (B).length ((B).flatMap uc8), .val (.int .i64 (0 : Int))]] (.tup []) [.mix 158 [.val (.int .i64 (bAt B 0)), .val (.int .i64 (bAt B 1)), .val (.slice none 0 0), .slf 1 (B).length ((B).flatMap uc8), .val (.int .i64 (2 : Int))]] := by
 refine zap (N := 41) 1 (by kernel_rfl) Tryz.func98 rfl rfl rfl (by simp only [fr0, qau, qaw]; exact rfl) rfl fun s0 hs0 => ?_
 refine zah ?_
 refine zaa 1 rfl ?_
 refine zaj rfl (zai [0] [] [] rfl (ev1 rfl) (ec (ev1 rfl) (ec (ev1 rfl) en)) rfl rfl (Ht B hB 0 h2) rfl rfl rfl rfl rfl rfl) ?_
 refine zaa 1 rfl ?_
 refine zab ?_
 refine zae ?_
 refine qg [([], []), ([], []), ([], []), ([], []), ([], []), ([], []), ([], []), ([], []), ([], []), ([], []), ([], []), ([], []), ([], []), ([0], [0]), ([], []), ([], []), ([], []), ([0], [0])] qU (by kernel_rfl) ?_
 refine zag rfl rfl (zal (.inl rfl) (ev1 rfl)) ?_
 refine zag rfl rfl (zal (.inl rfl) (ev1 rfl)) ?_
 refine zag rfl rfl (zal (.inl rfl) (ev1 rfl)) ?_
 refine zag rfl rfl (qP (l := (VA B 0)) (en := uc8) (j := 0) rfl qu (ev1 rfl) (ev1 rfl) (fun _ => rfl) (by decide) rfl (qa3 (qaF rfl))) ?_
 refine zag rfl rfl ((qS rfl tb5 (ev1 rfl) rfl).wk (Wk.of_eq (d' := .val (.int .u8 (bAt B 0))) rfl)) ?_
 refine zag rfl rfl (jZ ty5 kn3 rfl (ev1 rfl) (fun _ => by have := wj hi 0; exact qaC _ (by omega))) ?_
 refine zag rfl rfl (zal (.inl rfl) (ev1 rfl)) ?_
 refine zag rfl rfl (qP (l := (VA B 0)) (en := uc8) (j := 1) rfl qu (ev1 rfl) (ev1 rfl) (fun _ => rfl) (by decide) rfl (qa3 (qaF rfl))) ?_
 refine zag rfl rfl ((qS rfl tb5 (ev1 rfl) rfl).wk (Wk.of_eq (d' := .val (.int .u8 (bAt B 1))) rfl)) ?_
 refine zag rfl rfl (jZ ty5 kn3 rfl (ev1 rfl) (fun _ => by have := wj hi 1; exact qaC _ (by omega))) ?_
 refine zag rfl rfl (qw rfl (ev1 rfl) (fun s v h => by cases h; exact ⟨_, rfl⟩)) ?_
 refine zag rfl rfl (qa rfl k7 (ev1 rfl)) ?_
 refine zag rfl rfl (qa rfl y4 (ev1 rfl)) ?_
 refine gt rfl rfl (kL rfl tb3 (ev1 rfl) (ev1 rfl) (fun s v h => by cases h <;> exact ⟨rfl, rfl⟩) rfl (by first | decide | exact qaF rfl | simp)) rfl (by simp only [upd, zad, zaf]; exact rfl) ?_
 refine zag rfl rfl (qw rfl (ev1 rfl) (fun s v h => by cases h; exact ⟨_, rfl⟩)) ?_
 refine zag rfl rfl (qa rfl k7 (ev1 rfl)) ?_
 refine zag rfl rfl (qa rfl y5 (ev1 rfl)) ?_
 refine gt rfl rfl (kL rfl tb3 (ev1 rfl) (ev1 rfl) (fun s v h => by cases h <;> exact ⟨rfl, rfl⟩) rfl (by first | decide | exact qaF rfl | simp)) rfl (by simp only [upd, zad, zaf]; exact rfl) ?_
 refine qp ?_
 refine zae ?_
 refine qg [([], []), ([], []), ([], []), ([], []), ([0], []), ([], []), ([], []), ([], []), ([], []), ([0], []), ([], []), ([], []), ([], []), ([], []), ([], []), ([], [])] qU (by kernel_rfl) ?_
 refine zag rfl rfl (zal (.inl rfl) (ev1 rfl)) ?_
 refine zag rfl rfl (qw rfl (ev1 rfl) (fun s v h => by cases h; exact ⟨_, rfl⟩)) ?_
 refine zag rfl rfl (qa rfl k7 (ev1 rfl)) ?_
 refine zag rfl rfl (qa rfl y4 (ev1 rfl)) ?_
 refine zag rfl rfl (zaq rfl tb3 (ev1 rfl) rfl rfl) ?_
 refine zag rfl rfl (zal (.inl rfl) (ev1 rfl)) ?_
 refine zag rfl rfl (qw rfl (ev1 rfl) (fun s v h => by cases h; exact ⟨_, rfl⟩)) ?_
 refine zag rfl rfl (qa rfl k7 (ev1 rfl)) ?_
 refine zag rfl rfl (qa rfl y5 (ev1 rfl)) ?_
 refine zag rfl rfl (zaq rfl tb3 (ev1 rfl) rfl rfl) ?_
 refine zag rfl rfl (zai [] [] [] rfl (ev1 rfl) (ec (ev1 rfl) (ec (ev1 rfl) en)) rfl rfl (AE (bAt B 0) (bAt B 1) n hm hn) rfl rfl rfl rfl rfl rfl) ?_
 refine zag rfl rfl (zal (.inl rfl) (ev1 rfl)) ?_
 refine zag rfl rfl (jU rfl (ev1 rfl) rfl) ?_
 refine zag rfl rfl (jU rfl (ev1 rfl) rfl) ?_
 refine zag rfl rfl (zal (.inr rfl) (ev1 rfl)) ?_
 refine zag rfl rfl (zal (.inr rfl) (ev1 rfl)) ?_
 refine qp ?_
 refine zah ?_
 refine zaa 1 rfl ?_
 refine za rfl (ka rfl (ev1 rfl) (ev1 rfl)) ?_
 refine zab ?_
 refine qc rfl (rfl) ?_
 refine zao ?_
 refine qY [0] (qF rfl) rfl rfl ?_ ⟨rfl, trivial⟩
 rfl
theorem Uo (B : List Int) (hB : B.length ≤ 4000000000000000000) (hi : isB B) (h2 : ¬ 0 + 2 ≤ B.length) : DPanL Tryz.prog 98 [.loc 0 0] [.mix 158 [.val (.int .i64 0), .val (.int .i64 0), .val (.slice none 0 0), .slf 1 (B).length ((B).flatMap uc8), .val (.int .i64 (0 : Int))]] (.ifc 181 (.val (.agg #[]))) := by
 refine zap (N := 41) 1 (by kernel_rfl) Tryz.func98 rfl rfl rfl (by simp only [fr0, qau, qaw]; exact rfl) rfl fun s0 hs0 => ?_
 refine zah ?_
 refine zaa 1 rfl ?_
 refine qZ rfl (qE [0] [] [] rfl (ev1 rfl) (ec (ev1 rfl) (ec (ev1 rfl) en)) rfl rfl ((Ul B hB 0 (qa5 _) h2).dead) rfl rfl rfl rfl rfl rfl) rfl ?_
 refine vf (Mo := [_]) [0] rfl rfl ?_ ⟨rfl, trivial⟩ rfl
 rfl
theorem Up (B : List Int) (hB : B.length ≤ 4000000000000000000) (hi : isB B) (h2 : 0 + 2 ≤ B.length) (hm : gN (bAt B 0) (bAt B 1) = false) : DPanL Tryz.prog 98 [.loc 0 0] [.mix 158 [.val (.int .i64 0), .val (.int .i64 0), .val (.slice none 0 0), .slf 1 (B).length ((B).flatMap uc8), .val (.int .i64 (0 : Int))]] (.ifc 181 (.val (.agg #[]))) := by
 refine zap (N := 41) 1 (by kernel_rfl) Tryz.func98 rfl rfl rfl (by simp only [fr0, qau, qaw]; exact rfl) rfl fun s0 hs0 => ?_
 refine zah ?_
 refine zaa 1 rfl ?_
 refine zaj rfl (zai [0] [] [] rfl (ev1 rfl) (ec (ev1 rfl) (ec (ev1 rfl) en)) rfl rfl (Ht B hB 0 h2) rfl rfl rfl rfl rfl rfl) ?_
 refine zaa 1 rfl ?_
 refine zab ?_
 refine zae ?_
 refine qg [([], []), ([], []), ([], []), ([], []), ([], []), ([], []), ([], []), ([], []), ([], []), ([], []), ([], []), ([], []), ([], []), ([0], [0]), ([], []), ([], []), ([], []), ([0], [0])] qU (by kernel_rfl) ?_
 refine zag rfl rfl (zal (.inl rfl) (ev1 rfl)) ?_
 refine zag rfl rfl (zal (.inl rfl) (ev1 rfl)) ?_
 refine zag rfl rfl (zal (.inl rfl) (ev1 rfl)) ?_
 refine zag rfl rfl (qP (l := (VA B 0)) (en := uc8) (j := 0) rfl qu (ev1 rfl) (ev1 rfl) (fun _ => rfl) (by decide) rfl (qa3 (qaF rfl))) ?_
 refine zag rfl rfl ((qS rfl tb5 (ev1 rfl) rfl).wk (Wk.of_eq (d' := .val (.int .u8 (bAt B 0))) rfl)) ?_
 refine zag rfl rfl (jZ ty5 kn3 rfl (ev1 rfl) (fun _ => by have := wj hi 0; exact qaC _ (by omega))) ?_
 refine zag rfl rfl (zal (.inl rfl) (ev1 rfl)) ?_
 refine zag rfl rfl (qP (l := (VA B 0)) (en := uc8) (j := 1) rfl qu (ev1 rfl) (ev1 rfl) (fun _ => rfl) (by decide) rfl (qa3 (qaF rfl))) ?_
 refine zag rfl rfl ((qS rfl tb5 (ev1 rfl) rfl).wk (Wk.of_eq (d' := .val (.int .u8 (bAt B 1))) rfl)) ?_
 refine zag rfl rfl (jZ ty5 kn3 rfl (ev1 rfl) (fun _ => by have := wj hi 1; exact qaC _ (by omega))) ?_
 refine zag rfl rfl (qw rfl (ev1 rfl) (fun s v h => by cases h; exact ⟨_, rfl⟩)) ?_
 refine zag rfl rfl (qa rfl k7 (ev1 rfl)) ?_
 refine zag rfl rfl (qa rfl y4 (ev1 rfl)) ?_
 refine gt rfl rfl (kL rfl tb3 (ev1 rfl) (ev1 rfl) (fun s v h => by cases h <;> exact ⟨rfl, rfl⟩) rfl (by first | decide | exact qaF rfl | simp)) rfl (by simp only [upd, zad, zaf]; exact rfl) ?_
 refine zag rfl rfl (qw rfl (ev1 rfl) (fun s v h => by cases h; exact ⟨_, rfl⟩)) ?_
 refine zag rfl rfl (qa rfl k7 (ev1 rfl)) ?_
 refine zag rfl rfl (qa rfl y5 (ev1 rfl)) ?_
 refine gt rfl rfl (kL rfl tb3 (ev1 rfl) (ev1 rfl) (fun s v h => by cases h <;> exact ⟨rfl, rfl⟩) rfl (by first | decide | exact qaF rfl | simp)) rfl (by simp only [upd, zad, zaf]; exact rfl) ?_
 refine qp ?_
 refine zae ?_
 refine qg [([], []), ([], []), ([], []), ([], []), ([0], []), ([], []), ([], []), ([], []), ([], []), ([0], []), ([], []), ([], []), ([], []), ([], []), ([], []), ([], [])] qU (by kernel_rfl) ?_
 refine zag rfl rfl (zal (.inl rfl) (ev1 rfl)) ?_
 refine zag rfl rfl (qw rfl (ev1 rfl) (fun s v h => by cases h; exact ⟨_, rfl⟩)) ?_
 refine zag rfl rfl (qa rfl k7 (ev1 rfl)) ?_
 refine zag rfl rfl (qa rfl y4 (ev1 rfl)) ?_
 refine zag rfl rfl (zaq rfl tb3 (ev1 rfl) rfl rfl) ?_
 refine zag rfl rfl (zal (.inl rfl) (ev1 rfl)) ?_
 refine zag rfl rfl (qw rfl (ev1 rfl) (fun s v h => by cases h; exact ⟨_, rfl⟩)) ?_
 refine zag rfl rfl (qa rfl k7 (ev1 rfl)) ?_
 refine zag rfl rfl (qa rfl y5 (ev1 rfl)) ?_
 refine zag rfl rfl (zaq rfl tb3 (ev1 rfl) rfl rfl) ?_
 refine zag rfl rfl (zai [] [] [] rfl (ev1 rfl) (ec (ev1 rfl) (ec (ev1 rfl) en)) rfl rfl (Az (bAt B 0) (bAt B 1) hm) rfl rfl rfl rfl rfl rfl) ?_
 refine zag rfl rfl (zal (.inl rfl) (ev1 rfl)) ?_
 refine zag rfl rfl (jU rfl (ev1 rfl) rfl) ?_
 refine zag rfl rfl (jU rfl (ev1 rfl) rfl) ?_
 refine zag rfl rfl (zal (.inr rfl) (ev1 rfl)) ?_
 refine zag rfl rfl (zal (.inr rfl) (ev1 rfl)) ?_
 refine qp ?_
 refine zah ?_
 refine zaa 1 rfl ?_
 refine za rfl (ka rfl (ev1 rfl) (ev1 rfl)) ?_
 refine zab ?_
 refine qM rfl (rfl) ?_
 refine zac ?_
 refine za rfl (kW rfl Gl zA) ?_
 refine za rfl (xq rfl zy (ev1 rfl)) ?_
 refine qZ rfl (wb rfl (ev1 rfl)) rfl ?_
 refine vf (Mo := [_]) [0] rfl rfl ?_ ⟨rfl, trivial⟩ rfl
 rfl
theorem Uq (us : List TL) (t : TL) : us.flatMap tc ++ ([Value.agg (tc t).toArray].flatMap fun v => v.cells.toList) = (us ++ [t]).flatMap tc := by
 rw [Hs, qbg]
 congr 1
 exact (qbk _).symm
theorem Ur (B : List Int) (hB : B.length ≤ 4000000000000000000) (w h : Int) (us : List TL) (hu : us.length ≤ 5000) (hi : isB B) (t : TL) (p : Nat) (hp : p ≤ B.length) (hz : (p < B.length ∧ bAt B p = 0)) : DFun Tryz.prog 122 [.loc 0 0, tD t] [.mix 158 [.val (.int .i64 w), .val (.int .i64 h), .arr 1, .slf 1 (B).length ((B).flatMap uc8), .val (.int .i64 (p : Int))], .arr 84 256 (us).length ((us).flatMap tc)] (.tup []) [.mix 158 [.val (.int .i64 w), .val (.int .i64 h), .arr 2, .slf 1 (B).length ((B).flatMap uc8), .val (.int .i64 ((p + 1 : Nat) : Int))], .gone, .arr 84 256 ((us ++ [t])).length (((us ++ [t])).flatMap tc)] := by
 refine zap (N := 55) 2 (by kernel_rfl) Tryz.func122 rfl rfl rfl (by simp only [fr0, qau, qaw]; exact rfl) rfl fun s0 hs0 => ?_
 refine zae ?_
 refine zam 1 ?_
 refine zac ?_
 refine zaj rfl (gC 2 rfl (ev1 rfl) rfl) ?_
 refine zab ?_
 refine zae ?_
 refine zam 1 ?_
 refine zac ?_
 refine za rfl (kv rfl jg (ev1 rfl) rfl (qy _)) ?_
 refine zaj rfl (zan 3 rfl yN rfl) ?_
 refine zar rfl (qQ rfl jg (ev1 rfl) (ev1 rfl) rfl (qy _) (yj _) ((qy _).trans (qy _).symm)) ?_
 refine zab ?_
 refine zae ?_
 refine zae ?_
 refine qg [([], []), ([], []), ([], []), ([0], []), ([], []), ([], []), ([], []), ([0], []), ([], []), ([], []), ([], []), ([], []), ([], []), ([], []), ([0], []), ([], []), ([], []), ([], []), ([0], []), ([], []), ([], []), ([], []), ([], [])] qU (by kernel_rfl) ?_
 refine zag rfl rfl (zal (.inl rfl) (ev1 rfl)) ?_
 refine zag rfl rfl (qw rfl (ev1 rfl) (fun s v h => by cases h; exact ⟨_, rfl⟩)) ?_
 refine zag rfl rfl (qa rfl kT (ev1 rfl)) ?_
 refine zag rfl rfl (zaq rfl tb3 (ev1 rfl) rfl rfl) ?_
 refine zag rfl rfl (zal (.inl rfl) (ev1 rfl)) ?_
 refine zag rfl rfl (qw rfl (ev1 rfl) (fun s v h => by cases h; exact ⟨_, rfl⟩)) ?_
 refine zag rfl rfl (qa rfl jW (ev1 rfl)) ?_
 refine zag rfl rfl (zaq rfl kC (ev1 rfl) rfl rfl) ?_
 refine zag rfl rfl (qt rfl qu (ev1 rfl)) ?_
 refine zag rfl rfl (qA rfl (ev1 rfl) (ev1 rfl)) ?_
 refine zag rfl rfl (zal (.inl rfl) (ev1 rfl)) ?_
 refine qf (qz rfl rfl rfl) rfl rfl (zal (.inl rfl) (ev1 rfl)) ?_
 refine qf (qz rfl rfl rfl) rfl rfl (qw rfl (ev2 rfl) (fun s v h => by cases h; exact ⟨_, rfl⟩)) ?_
 refine qf (qz rfl rfl rfl) rfl rfl (qa rfl jW (ev2 rfl)) ?_
 refine qf (qz rfl rfl rfl) rfl rfl (zaq rfl kC (ev2 rfl) rfl rfl) ?_
 refine qf (qz rfl rfl rfl) rfl rfl (zal (.inl rfl) (ev1 rfl)) ?_
 refine qf (qz rfl rfl rfl) rfl rfl (qw rfl (ev2 rfl) (fun s v h => by cases h; exact ⟨_, rfl⟩)) ?_
 refine qf (qz rfl rfl rfl) rfl rfl (qa rfl kT (ev2 rfl)) ?_
 refine qf (qz rfl rfl rfl) rfl rfl (zaq rfl tb3 (ev2 rfl) rfl rfl) ?_
 refine qf (qz rfl rfl rfl) rfl rfl (xL (j := p) ((0 : Int)) rfl qu (ev2 rfl) (ev2 rfl) (fun _ => rfl) (by decide) (fun hp => by first | omega | (simp at hp; omega)) (fun hp => by first | omega | (simp at hp; omega))) ?_
 refine qf (qz rfl rfl rfl) rfl rfl (qS rfl tb5 (ev2 rfl) rfl) ?_
 refine qf (qz rfl rfl rfl) rfl rfl (qv rfl (ev2 rfl) (ev1 rfl)) ?_
 refine zag rfl rfl (q0 rfl (ev1 rfl) (ev3 rfl id)) ?_
 refine qp ?_
 refine qM rfl (by
 have h2 : B[p]?.getD 0 = 0 := by rw [← qa2]; exact hz.2
 simp [h2]
 omega) ?_
 refine zac ?_
 refine zaa 1 rfl ?_
 refine za rfl (qw rfl (ev1 rfl) (fun s v h => by cases h; exact ⟨_, rfl⟩)) ?_
 refine za rfl (qa rfl kT (ev1 rfl)) ?_
 refine za rfl (zaq rfl tb3 (ev1 rfl) rfl rfl) ?_
 refine za rfl (qh rfl (ev1 rfl) (ev1 rfl) (fun _ => qaC _ (by omega))) ?_
 refine za rfl (qw rfl (ev1 rfl) (fun s v h => by cases h; exact ⟨_, rfl⟩)) ?_
 refine za rfl (qa rfl kT (ev1 rfl)) ?_
 refine zar rfl (kL rfl tb3 (ev1 rfl) (ev1 rfl) (fun s v h => by cases h <;> exact ⟨rfl, rfl⟩) rfl (by first | decide | exact qaF rfl | simp)) ?_
 refine zab ?_
 refine zam 2 ?_
 refine qg [([], []), ([], []), ([], []), ([], []), ([], []), ([0], []), ([3], []), ([4], [4]), ([1, 5, 4], [1, 5]), ([], []), ([], []), ([], []), ([0], [0])] qU (by kernel_rfl) ?_
 refine zag rfl rfl (zal (.inl rfl) (ev1 rfl)) ?_
 refine zag rfl rfl (zal (.inl rfl) (ev1 rfl)) ?_
 refine zag rfl rfl (qw rfl (ev1 rfl) (fun s v h => by cases h; exact ⟨_, rfl⟩)) ?_
 refine zag rfl rfl (qa rfl k7 (ev1 rfl)) ?_
 refine zag rfl rfl (qa rfl yh (ev1 rfl)) ?_
 refine zag rfl rfl (zaq rfl xz (ev1 rfl) rfl rfl) ?_
 refine zag rfl rfl (kv rfl jg (ev1 rfl) rfl (qy _)) ?_
 refine gf rfl rfl (zh (ps := [(0, .tmp 49)]) 4 rfl w4 yN rfl (vc (ev1 rfl) vn) (Hr _) (by decide) (by decide) rfl) rfl (by simp only [upd, zad, zaf]; exact rfl) ?_
 refine gf rfl rfl (vt (j := 5) rfl w4 yN rfl (ev1 rfl) (ev1 rfl) (K2 rfl) rfl rfl (fun _ => Uc _) (fun _ => ⟨by omega, by omega⟩)) rfl (by simp only [upd, zad, zaf]; exact rfl) ?_
 refine zag rfl rfl (qw rfl (ev1 rfl) (fun s v h => by cases h; exact ⟨_, rfl⟩)) ?_
 refine zag rfl rfl (qa rfl k7 (ev1 rfl)) ?_
 refine zag rfl rfl (qa rfl yh (ev1 rfl)) ?_
 refine gt rfl rfl (kL rfl xz (ev1 rfl) (ev1 rfl) (fun s v h => by cases h <;> exact ⟨rfl, rfl⟩) rfl (by first | decide | exact qaF rfl | simp)) rfl (by simp only [upd, zad, zaf]; exact rfl) ?_
 refine qp ?_
 refine qY [0, 1, 5] (qF rfl) rfl rfl ?_ ⟨rfl, rfl, vA (by rw [qaD]; rfl) (Uq us t), trivial⟩
 rfl
theorem Us (B : List Int) (hB : B.length ≤ 4000000000000000000) (w h : Int) (us : List TL) (hu : us.length ≤ 5000) (hi : isB B) (t : TL) (p : Nat) (hp : p ≤ B.length) (hz : ¬ (p < B.length ∧ bAt B p = 0)) (l : List C4) (q : Nat) (h0 : rdN B p = some (l, q)) (hne : k8 l ≠ t) : DFun Tryz.prog 122 [.loc 0 0, tD t] [.mix 158 [.val (.int .i64 w), .val (.int .i64 h), .arr 1, .slf 1 (B).length ((B).flatMap uc8), .val (.int .i64 (p : Int))], .arr 84 256 (us).length ((us).flatMap tc)] (.tup []) [.mix 158 [.val (.int .i64 w), .val (.int .i64 h), .arr 2, .slf 1 (B).length ((B).flatMap uc8), .val (.int .i64 ((q : Nat) : Int))], .gone, .arr 84 256 ((us ++ [k8 l])).length (((us ++ [k8 l])).flatMap tc)] := by
 refine zap (N := 55) 2 (by kernel_rfl) Tryz.func122 rfl rfl rfl (by simp only [fr0, qau, qaw]; exact rfl) rfl fun s0 hs0 => ?_
 refine zae ?_
 refine zam 1 ?_
 refine zac ?_
 refine zaj rfl (gC 2 rfl (ev1 rfl) rfl) ?_
 refine zab ?_
 refine zae ?_
 refine zam 1 ?_
 refine zac ?_
 refine za rfl (kv rfl jg (ev1 rfl) rfl (qy _)) ?_
 refine zaj rfl (zan 3 rfl yN rfl) ?_
 refine zar rfl (qQ rfl jg (ev1 rfl) (ev1 rfl) rfl (qy _) (yj _) ((qy _).trans (qy _).symm)) ?_
 refine zab ?_
 refine zae ?_
 refine zae ?_
 refine qg [([], []), ([], []), ([], []), ([0], []), ([], []), ([], []), ([], []), ([0], []), ([], []), ([], []), ([], []), ([], []), ([], []), ([], []), ([0], []), ([], []), ([], []), ([], []), ([0], []), ([], []), ([], []), ([], []), ([], [])] qU (by kernel_rfl) ?_
 refine zag rfl rfl (zal (.inl rfl) (ev1 rfl)) ?_
 refine zag rfl rfl (qw rfl (ev1 rfl) (fun s v h => by cases h; exact ⟨_, rfl⟩)) ?_
 refine zag rfl rfl (qa rfl kT (ev1 rfl)) ?_
 refine zag rfl rfl (zaq rfl tb3 (ev1 rfl) rfl rfl) ?_
 refine zag rfl rfl (zal (.inl rfl) (ev1 rfl)) ?_
 refine zag rfl rfl (qw rfl (ev1 rfl) (fun s v h => by cases h; exact ⟨_, rfl⟩)) ?_
 refine zag rfl rfl (qa rfl jW (ev1 rfl)) ?_
 refine zag rfl rfl (zaq rfl kC (ev1 rfl) rfl rfl) ?_
 refine zag rfl rfl (qt rfl qu (ev1 rfl)) ?_
 refine zag rfl rfl (qA rfl (ev1 rfl) (ev1 rfl)) ?_
 refine zag rfl rfl (zal (.inl rfl) (ev1 rfl)) ?_
 refine qf (qz rfl rfl rfl) rfl rfl (zal (.inl rfl) (ev1 rfl)) ?_
 refine qf (qz rfl rfl rfl) rfl rfl (qw rfl (ev2 rfl) (fun s v h => by cases h; exact ⟨_, rfl⟩)) ?_
 refine qf (qz rfl rfl rfl) rfl rfl (qa rfl jW (ev2 rfl)) ?_
 refine qf (qz rfl rfl rfl) rfl rfl (zaq rfl kC (ev2 rfl) rfl rfl) ?_
 refine qf (qz rfl rfl rfl) rfl rfl (zal (.inl rfl) (ev1 rfl)) ?_
 refine qf (qz rfl rfl rfl) rfl rfl (qw rfl (ev2 rfl) (fun s v h => by cases h; exact ⟨_, rfl⟩)) ?_
 refine qf (qz rfl rfl rfl) rfl rfl (qa rfl kT (ev2 rfl)) ?_
 refine qf (qz rfl rfl rfl) rfl rfl (zaq rfl tb3 (ev2 rfl) rfl rfl) ?_
 refine qf (qz rfl rfl rfl) rfl rfl (xL (j := p) ((0 : Int)) rfl qu (ev2 rfl) (ev2 rfl) (fun _ => rfl) (by decide) (fun hp => by first | omega | (simp at hp; omega)) (fun hp => by first | omega | (simp at hp; omega))) ?_
 refine qf (qz rfl rfl rfl) rfl rfl (qS rfl tb5 (ev2 rfl) rfl) ?_
 refine qf (qz rfl rfl rfl) rfl rfl (qv rfl (ev2 rfl) (ev1 rfl)) ?_
 refine zag rfl rfl (q0 rfl (ev1 rfl) (ev3 rfl id)) ?_
 refine qp ?_
 refine qc rfl (by
 rw [Bool.eq_false_iff]
 intro h
 simp at h
 exact hz ⟨by omega, by unfold bAt; rw [qa2]; exact h.2⟩) ?_
 refine zah ?_
 refine zaa 1 rfl ?_
 refine zaj rfl (zai [0, 1] [] [] rfl (ev1 rfl) (ec (ev1 rfl) en) rfl rfl (QH B hB w h us hu hi p hp l q h0) rfl rfl rfl rfl rfl rfl) ?_
 refine zar rfl (qQ rfl jg (ev1 rfl) (ev1 rfl) rfl (qy _) (yj _) ((qy _).trans (qy _).symm)) ?_
 refine zab ?_
 refine zah ?_
 refine za rfl (kv rfl jg (ev1 rfl) rfl (qy _)) ?_
 refine za rfl (kv rfl jg (ev1 rfl) rfl (qy _)) ?_
 refine za rfl (vv eq84 rfl gd84 jg (ev1 rfl) (ev1 rfl)) ?_
 refine zab ?_
 refine qc rfl (by simpa using hne) ?_
 refine zao ?_
 refine zam 2 ?_
 refine qg [([], []), ([], []), ([], []), ([], []), ([], []), ([0], []), ([3], []), ([4], [4]), ([1, 5, 4], [1, 5]), ([], []), ([], []), ([], []), ([0], [0])] qU (by kernel_rfl) ?_
 refine zag rfl rfl (zal (.inl rfl) (ev1 rfl)) ?_
 refine zag rfl rfl (zal (.inl rfl) (ev1 rfl)) ?_
 refine zag rfl rfl (qw rfl (ev1 rfl) (fun s v h => by cases h; exact ⟨_, rfl⟩)) ?_
 refine zag rfl rfl (qa rfl k7 (ev1 rfl)) ?_
 refine zag rfl rfl (qa rfl yh (ev1 rfl)) ?_
 refine zag rfl rfl (zaq rfl xz (ev1 rfl) rfl rfl) ?_
 refine zag rfl rfl (kv rfl jg (ev1 rfl) rfl (qy _)) ?_
 refine gf rfl rfl (zh (ps := [(0, .tmp 49)]) 4 rfl w4 yN rfl (vc (ev1 rfl) vn) (Hr _) (by decide) (by decide) rfl) rfl (by simp only [upd, zad, zaf]; exact rfl) ?_
 refine gf rfl rfl (vt (j := 5) rfl w4 yN rfl (ev1 rfl) (ev1 rfl) (K2 rfl) rfl rfl (fun _ => Uc _) (fun _ => ⟨by omega, by omega⟩)) rfl (by simp only [upd, zad, zaf]; exact rfl) ?_
 refine zag rfl rfl (qw rfl (ev1 rfl) (fun s v h => by cases h; exact ⟨_, rfl⟩)) ?_
 refine zag rfl rfl (qa rfl k7 (ev1 rfl)) ?_
 refine zag rfl rfl (qa rfl yh (ev1 rfl)) ?_
 refine gt rfl rfl (kL rfl xz (ev1 rfl) (ev1 rfl) (fun s v h => by cases h <;> exact ⟨rfl, rfl⟩) rfl (by first | decide | exact qaF rfl | simp)) rfl (by simp only [upd, zad, zaf]; exact rfl) ?_
 refine qp ?_
 refine qY [0, 1, 5] (qF rfl) rfl rfl ?_ ⟨rfl, rfl, vA (by rw [qaD]; rfl) (Uq us (k8 l)), trivial⟩
 rfl
theorem Za (B : List Int) (hB : B.length ≤ 4000000000000000000) (w h : Int) (us : List TL) (hu : us.length ≤ 5000) (hi : isB B) (t : TL) (p : Nat) (hp : p ≤ B.length) (hz : ¬ (p < B.length ∧ bAt B p = 0)) (h0 : rdN B p = none) : DPanL Tryz.prog 122 [.loc 0 0, tD t] [.mix 158 [.val (.int .i64 w), .val (.int .i64 h), .arr 1, .slf 1 (B).length ((B).flatMap uc8), .val (.int .i64 (p : Int))], .arr 84 256 (us).length ((us).flatMap tc)] (.ifc 181 (.val (.agg #[]))) := by
 refine zap (N := 55) 2 (by kernel_rfl) Tryz.func122 rfl rfl rfl (by simp only [fr0, qau, qaw]; exact rfl) rfl fun s0 hs0 => ?_
 refine zae ?_
 refine zam 1 ?_
 refine zac ?_
 refine zaj rfl (gC 2 rfl (ev1 rfl) rfl) ?_
 refine zab ?_
 refine zae ?_
 refine zam 1 ?_
 refine zac ?_
 refine za rfl (kv rfl jg (ev1 rfl) rfl (qy _)) ?_
 refine zaj rfl (zan 3 rfl yN rfl) ?_
 refine zar rfl (qQ rfl jg (ev1 rfl) (ev1 rfl) rfl (qy _) (yj _) ((qy _).trans (qy _).symm)) ?_
 refine zab ?_
 refine zae ?_
 refine zae ?_
 refine qg [([], []), ([], []), ([], []), ([0], []), ([], []), ([], []), ([], []), ([0], []), ([], []), ([], []), ([], []), ([], []), ([], []), ([], []), ([0], []), ([], []), ([], []), ([], []), ([0], []), ([], []), ([], []), ([], []), ([], [])] qU (by kernel_rfl) ?_
 refine zag rfl rfl (zal (.inl rfl) (ev1 rfl)) ?_
 refine zag rfl rfl (qw rfl (ev1 rfl) (fun s v h => by cases h; exact ⟨_, rfl⟩)) ?_
 refine zag rfl rfl (qa rfl kT (ev1 rfl)) ?_
 refine zag rfl rfl (zaq rfl tb3 (ev1 rfl) rfl rfl) ?_
 refine zag rfl rfl (zal (.inl rfl) (ev1 rfl)) ?_
 refine zag rfl rfl (qw rfl (ev1 rfl) (fun s v h => by cases h; exact ⟨_, rfl⟩)) ?_
 refine zag rfl rfl (qa rfl jW (ev1 rfl)) ?_
 refine zag rfl rfl (zaq rfl kC (ev1 rfl) rfl rfl) ?_
 refine zag rfl rfl (qt rfl qu (ev1 rfl)) ?_
 refine zag rfl rfl (qA rfl (ev1 rfl) (ev1 rfl)) ?_
 refine zag rfl rfl (zal (.inl rfl) (ev1 rfl)) ?_
 refine qf (qz rfl rfl rfl) rfl rfl (zal (.inl rfl) (ev1 rfl)) ?_
 refine qf (qz rfl rfl rfl) rfl rfl (qw rfl (ev2 rfl) (fun s v h => by cases h; exact ⟨_, rfl⟩)) ?_
 refine qf (qz rfl rfl rfl) rfl rfl (qa rfl jW (ev2 rfl)) ?_
 refine qf (qz rfl rfl rfl) rfl rfl (zaq rfl kC (ev2 rfl) rfl rfl) ?_
 refine qf (qz rfl rfl rfl) rfl rfl (zal (.inl rfl) (ev1 rfl)) ?_
 refine qf (qz rfl rfl rfl) rfl rfl (qw rfl (ev2 rfl) (fun s v h => by cases h; exact ⟨_, rfl⟩)) ?_
 refine qf (qz rfl rfl rfl) rfl rfl (qa rfl kT (ev2 rfl)) ?_
 refine qf (qz rfl rfl rfl) rfl rfl (zaq rfl tb3 (ev2 rfl) rfl rfl) ?_
 refine qf (qz rfl rfl rfl) rfl rfl (xL (j := p) ((0 : Int)) rfl qu (ev2 rfl) (ev2 rfl) (fun _ => rfl) (by decide) (fun hp => by first | omega | (simp at hp; omega)) (fun hp => by first | omega | (simp at hp; omega))) ?_
 refine qf (qz rfl rfl rfl) rfl rfl (qS rfl tb5 (ev2 rfl) rfl) ?_
 refine qf (qz rfl rfl rfl) rfl rfl (qv rfl (ev2 rfl) (ev1 rfl)) ?_
 refine zag rfl rfl (q0 rfl (ev1 rfl) (ev3 rfl id)) ?_
 refine qp ?_
 refine qc rfl (by
 rw [Bool.eq_false_iff]
 intro h
 simp at h
 exact hz ⟨by omega, by unfold bAt; rw [qa2]; exact h.2⟩) ?_
 refine zah ?_
 refine zaa 1 rfl ?_
 refine qZ rfl (qE [0, 1] [] [] rfl (ev1 rfl) (ec (ev1 rfl) en) rfl rfl ((X9 B hB w h us hu hi p hp h0).dead) rfl rfl rfl rfl rfl rfl) rfl ?_
 refine vf (Mo := [_, _]) [0, 1] rfl rfl ?_ ⟨rfl, rfl, trivial⟩ rfl
 rfl
theorem Zb (B : List Int) (hB : B.length ≤ 4000000000000000000) (w h : Int) (us : List TL) (hu : us.length ≤ 5000) (hi : isB B) (t : TL) (p : Nat) (hp : p ≤ B.length) (hz : ¬ (p < B.length ∧ bAt B p = 0)) (l : List C4) (q : Nat) (h0 : rdN B p = some (l, q)) (hne : k8 l = t) : DPanL Tryz.prog 122 [.loc 0 0, tD t] [.mix 158 [.val (.int .i64 w), .val (.int .i64 h), .arr 1, .slf 1 (B).length ((B).flatMap uc8), .val (.int .i64 (p : Int))], .arr 84 256 (us).length ((us).flatMap tc)] (.ifc 181 (.val (.agg #[]))) := by
 refine zap (N := 55) 2 (by kernel_rfl) Tryz.func122 rfl rfl rfl (by simp only [fr0, qau, qaw]; exact rfl) rfl fun s0 hs0 => ?_
 refine zae ?_
 refine zam 1 ?_
 refine zac ?_
 refine zaj rfl (gC 2 rfl (ev1 rfl) rfl) ?_
 refine zab ?_
 refine zae ?_
 refine zam 1 ?_
 refine zac ?_
 refine za rfl (kv rfl jg (ev1 rfl) rfl (qy _)) ?_
 refine zaj rfl (zan 3 rfl yN rfl) ?_
 refine zar rfl (qQ rfl jg (ev1 rfl) (ev1 rfl) rfl (qy _) (yj _) ((qy _).trans (qy _).symm)) ?_
 refine zab ?_
 refine zae ?_
 refine zae ?_
 refine qg [([], []), ([], []), ([], []), ([0], []), ([], []), ([], []), ([], []), ([0], []), ([], []), ([], []), ([], []), ([], []), ([], []), ([], []), ([0], []), ([], []), ([], []), ([], []), ([0], []), ([], []), ([], []), ([], []), ([], [])] qU (by kernel_rfl) ?_
 refine zag rfl rfl (zal (.inl rfl) (ev1 rfl)) ?_
 refine zag rfl rfl (qw rfl (ev1 rfl) (fun s v h => by cases h; exact ⟨_, rfl⟩)) ?_
 refine zag rfl rfl (qa rfl kT (ev1 rfl)) ?_
 refine zag rfl rfl (zaq rfl tb3 (ev1 rfl) rfl rfl) ?_
 refine zag rfl rfl (zal (.inl rfl) (ev1 rfl)) ?_
 refine zag rfl rfl (qw rfl (ev1 rfl) (fun s v h => by cases h; exact ⟨_, rfl⟩)) ?_
 refine zag rfl rfl (qa rfl jW (ev1 rfl)) ?_
 refine zag rfl rfl (zaq rfl kC (ev1 rfl) rfl rfl) ?_
 refine zag rfl rfl (qt rfl qu (ev1 rfl)) ?_
 refine zag rfl rfl (qA rfl (ev1 rfl) (ev1 rfl)) ?_
 refine zag rfl rfl (zal (.inl rfl) (ev1 rfl)) ?_
 refine qf (qz rfl rfl rfl) rfl rfl (zal (.inl rfl) (ev1 rfl)) ?_
 refine qf (qz rfl rfl rfl) rfl rfl (qw rfl (ev2 rfl) (fun s v h => by cases h; exact ⟨_, rfl⟩)) ?_
 refine qf (qz rfl rfl rfl) rfl rfl (qa rfl jW (ev2 rfl)) ?_
 refine qf (qz rfl rfl rfl) rfl rfl (zaq rfl kC (ev2 rfl) rfl rfl) ?_
 refine qf (qz rfl rfl rfl) rfl rfl (zal (.inl rfl) (ev1 rfl)) ?_
 refine qf (qz rfl rfl rfl) rfl rfl (qw rfl (ev2 rfl) (fun s v h => by cases h; exact ⟨_, rfl⟩)) ?_
 refine qf (qz rfl rfl rfl) rfl rfl (qa rfl kT (ev2 rfl)) ?_
 refine qf (qz rfl rfl rfl) rfl rfl (zaq rfl tb3 (ev2 rfl) rfl rfl) ?_
 refine qf (qz rfl rfl rfl) rfl rfl (xL (j := p) ((0 : Int)) rfl qu (ev2 rfl) (ev2 rfl) (fun _ => rfl) (by decide) (fun hp => by first | omega | (simp at hp; omega)) (fun hp => by first | omega | (simp at hp; omega))) ?_
 refine qf (qz rfl rfl rfl) rfl rfl (qS rfl tb5 (ev2 rfl) rfl) ?_
 refine qf (qz rfl rfl rfl) rfl rfl (qv rfl (ev2 rfl) (ev1 rfl)) ?_
 refine zag rfl rfl (q0 rfl (ev1 rfl) (ev3 rfl id)) ?_
 refine qp ?_
 refine qc rfl (by
 rw [Bool.eq_false_iff]
 intro h
 simp at h
 exact hz ⟨by omega, by unfold bAt; rw [qa2]; exact h.2⟩) ?_
 refine zah ?_
 refine zaa 1 rfl ?_
 refine zaj rfl (zai [0, 1] [] [] rfl (ev1 rfl) (ec (ev1 rfl) en) rfl rfl (QH B hB w h us hu hi p hp l q h0) rfl rfl rfl rfl rfl rfl) ?_
 refine zar rfl (qQ rfl jg (ev1 rfl) (ev1 rfl) rfl (qy _) (yj _) ((qy _).trans (qy _).symm)) ?_
 refine zab ?_
 refine zah ?_
 refine za rfl (kv rfl jg (ev1 rfl) rfl (qy _)) ?_
 refine za rfl (kv rfl jg (ev1 rfl) rfl (qy _)) ?_
 refine za rfl (vv eq84 rfl gd84 jg (ev1 rfl) (ev1 rfl)) ?_
 refine zab ?_
 refine qM rfl (by simpa using hne) ?_
 refine zac ?_
 refine za rfl (kW rfl Gl zA) ?_
 refine za rfl (xq rfl zy (ev1 rfl)) ?_
 refine qZ rfl (wb rfl (ev1 rfl)) rfl ?_
 refine vf (Mo := [_, _]) [0, 1] rfl rfl ?_ ⟨rfl, rfl, trivial⟩ rfl
 rfl
end Go.Proofs.YtofklkbfkoliiaaGreat
namespace Go.Proofs.YtofklkbfkoliiaaGreat
set_option linter.unusedVariables false
set_option linter.unusedSimpArgs false
open Go.RowKit
attribute [local irreducible] k8 rdP rdN yc
def zrB (B : List Int) (p : Nat) : Bool := decide (p < B.length) && decide (bAt B p = 0)
theorem zrB_iff {B : List Int} {p : Nat} : zrB B p = true ↔ p < B.length ∧ bAt B p = 0 := by unfold zrB; simp
def gc (kn : List TL → TL) (B : List Int) : Nat → List TL → Nat → Option (List TL × Nat)
 | 0, acc, p => some (acc, p)
 | n + 1, acc, p => if zrB B p = true then gc kn B n (acc ++ [kn acc]) (p + 1) else match rdN B p with
  | some x => if k8 x.1 = kn acc then none else gc kn B n (acc ++ [k8 x.1]) x.2
  | none => none
theorem Jo {B : List Int} {p q : Nat} {l : List C4} (h : rdN B p = some (l, q)) : q ≤ B.length ∧ p ≤ q ∧ l.length = 64 := by
 unfold rdN at h
 exact YJ h
theorem xS (kn : List TL → TL) (B : List Int) : ∀ (n : Nat) (acc : List TL) (p : Nat), p ≤ B.length → z4 kn n acc (B.drop p) = (gc kn B n acc p).map fun x => (x.1, B.drop x.2)
 | 0, _, _, _ => rfl
 | n + 1, acc, p, h => by
  have hz : (B.drop p).head? = some 0 ↔ zrB B p = true := by
   rw [zrB_iff]
   by_cases hp : p < B.length
   ·rw [je hp]
    simp [hp]
   ·rw [List.drop_eq_nil_of_le (by omega)]
    simp
    omega
  rw [z4, gc]
  by_cases hc : zrB B p = true
  ·rw [if_pos (hz.2 hc), if_pos hc, List.drop_drop]
   exact xS kn B n _ (p + 1) (zrB_iff.1 hc).1
  ·rw [if_neg (fun e => hc (hz.1 e)), if_neg hc, rdN_T h]
   cases hx : rdN B p with
   | none => rfl
   | some x =>
    obtain ⟨l, q⟩ := x
    simp only [Option.map_some]
    by_cases hk : k8 l = kn acc
    ·rw [if_pos hk, if_pos hk]; rfl
    ·rw [if_neg hk, if_neg hk]; exact xS kn B n _ q (Jo hx).1
theorem YM {kn : List TL → TL} {B : List Int} {n : Nat} {acc : List TL} {p : Nat} {r : Option (List TL × Nat)} (hn : 0 < n) (hz : zrB B p = true) (h : gc kn B n acc p = r) : gc kn B (n - 1) (acc ++ [kn acc]) (p + 1) = r := by
 cases n with
 | zero => omega
 | succ n => rw [gc, if_pos hz] at h; exact h
theorem YN {kn : List TL → TL} {B : List Int} {n : Nat} {acc : List TL} {p q : Nat} {l : List C4} {r : Option (List TL × Nat)} (hn : 0 < n) (hz : ¬ zrB B p = true) (h0 : rdN B p = some (l, q)) (hne : k8 l ≠ kn acc) (h : gc kn B n acc p = r) : gc kn B (n - 1) (acc ++ [k8 l]) q = r := by
 cases n with
 | zero => omega
 | succ n => rw [gc, if_neg hz, h0] at h; simp only at h; rw [if_neg hne] at h; exact h
theorem KI {kn : List TL → TL} {B : List Int} {n : Nat} {acc : List TL} {p : Nat} {x : List TL × Nat} (hn : 0 < n) (hz : ¬ zrB B p = true) (h : gc kn B n acc p = some x) : ∃ l q, rdN B p = some (l, q) ∧ k8 l ≠ kn acc := by
 cases n with
 | zero => omega
 | succ n =>
  rw [gc, if_neg hz] at h
  cases hx : rdN B p with
  | none => rw [hx] at h; cases h
  | some y =>
   obtain ⟨l, q⟩ := y
   rw [hx] at h
   simp only at h
   by_cases hk : k8 l = kn acc
   ·rw [if_pos hk] at h; cases h
   ·exact ⟨l, q, rfl, hk⟩
theorem uM {kn : List TL → TL} {B : List Int} : ∀ {n : Nat} {acc : List TL} {p : Nat} {ts : List TL} {q : Nat}, p ≤ B.length → gc kn B n acc p = some (ts, q) → ts.length = acc.length + n ∧ p ≤ q ∧ q ≤ B.length
 | 0, acc, p, ts, q, hp, h => by cases h; exact ⟨rfl, qaO _, hp⟩
 | n + 1, acc, p, ts, q, hp, h => by
  by_cases hz : zrB B p = true
  ·obtain ⟨h1, h2, h3⟩ := uM (zrB_iff.1 hz).1 (YM (Nat.succ_pos n) hz h)
   exact ⟨by rw [h1, qaD]; simp; omega, by omega, h3⟩
  ·obtain ⟨l, q', h0, hne⟩ := KI (Nat.succ_pos n) hz h
   obtain ⟨g1, g2, _⟩ := Jo h0
   obtain ⟨h1, h2, h3⟩ := uM g1 (YN (Nat.succ_pos n) hz h0 hne h)
   exact ⟨by rw [h1, qaD]; simp; omega, by omega, h3⟩
theorem KJ {us : List TL} (h : 0 < us.length) : q9 us = us[us.length - 1] := by
 unfold q9
 rw [List.getLastD_eq_getLast?, List.getLast?_eq_getElem?, qat (by omega)]
 rfl
theorem VH {us : List TL} {k : Nat} (h0 : 0 < k) (h : k ≤ us.length) : q9 (us.take k) = us[k - 1] := by
 rw [KJ (by rw [qaT]; omega)]
 simp only [qaT, List.getElem_take]
 congr 1
 omega
theorem AF (B : List Int) (hB : B.length ≤ 4000000000000000000) (w h : Int) (us : List TL) (hu : us.length ≤ 5000) (hi : isB B) (t : TL) (p : Nat) (hp : p ≤ B.length) (hz : ¬ (p < B.length ∧ bAt B p = 0)) (hno : ∀ l q, rdN B p = some (l, q) → k8 l = t) : DPanL Tryz.prog 122 [.loc 0 0, tD t] [.mix 158 [.val (.int .i64 w), .val (.int .i64 h), .arr 1, .slf 1 (B).length ((B).flatMap uc8), .val (.int .i64 (p : Int))], .arr 84 256 (us).length ((us).flatMap tc)] (.ifc 181 (.val (.agg #[]))) := by
 cases h0 : rdN B p with
 | none => exact Za B hB w h us hu hi t p hp hz h0
 | some x => exact Zb B hB w h us hu hi t p hp hz x.1 x.2 h0 (hno _ _ h0)
theorem uN (B : List Int) (hB : B.length ≤ 4000000000000000000) (w h : Int) (us : List TL) (hu : us.length ≤ 5000) (p : Nat) : DFun Tryz.prog 112 [.val (.int .i64 (us.length : Int)), .loc 2 0] [.mix 158 [.val (.int .i64 w), .val (.int .i64 h), .arr 1, .slf 1 (B).length ((B).flatMap uc8), .val (.int .i64 (p : Int))], .arr 84 256 (us).length ((us).flatMap tc), .mix 146 [.loc 0 0]] (.val (.agg (tc (q9 us)).toArray)) [.mix 158 [.val (.int .i64 w), .val (.int .i64 h), .arr 1, .slf 1 (B).length ((B).flatMap uc8), .val (.int .i64 (p : Int))], .arr 84 256 (us).length ((us).flatMap tc), .mix 146 [.loc 0 0]] := by
 refine zap (N := 15) 3 (by kernel_rfl) Tryz.func112 rfl rfl rfl (by simp only [fr0, qau, qaw]; exact rfl) rfl fun s0 hs0 => ?_
 refine zae ?_
 refine zam 1 ?_
 refine zac ?_
 refine zaj rfl (zan 3 rfl yN rfl) ?_
 refine zab ?_
 refine zae ?_
 refine zah ?_
 refine zaa 1 rfl ?_
 refine za rfl (qv rfl (ev1 rfl) (ev1 rfl)) ?_
 refine zab ?_
 refine qe rfl (fun c1 => ?_) (fun c1 => ?_)
 ·try simp only [decide_eq_true_eq, decide_eq_false_iff_not, beq_iff_eq, bne_iff_ne, beq_eq_false_iff_ne, bne_eq_false_iff_eq, qaz, qaA, qav, qaB, qax, ne_eq, Decidable.not_not, qaQ, qaR] at c1
  obtain rfl : us = [] := qaW (by omega)
  refine zah ?_
  refine za rfl (wU rfl z2 yN) ?_
  refine zar rfl (qQ rfl jg (ev1 rfl) (ev1 rfl) rfl (qy _) (yj _) ((qy _).trans (qy _).symm)) ?_
  refine zab ?_
  refine qb ?_
  refine qY [0, 1, 2] (rs1 rfl (yM jg rfl rfl (qy _))) rfl rfl ?_ ⟨rfl, rfl, rfl, trivial⟩
  rfl
 ·try simp only [decide_eq_true_eq, decide_eq_false_iff_not, beq_iff_eq, bne_iff_ne, beq_eq_false_iff_ne, bne_eq_false_iff_eq, qaz, qaA, qav, qaB, qax, ne_eq, Decidable.not_not, qaQ, qaR] at c1
  refine zao ?_
  refine zah ?_
  refine za rfl (zaq rfl Hk (ev1 rfl) rfl rfl) ?_
  refine za rfl (qw rfl (ev1 rfl) (fun s v h => by cases h; exact ⟨_, rfl⟩)) ?_
  refine za rfl (qa rfl yh (ev1 rfl)) ?_
  refine za rfl (zaq rfl xz (ev1 rfl) rfl rfl) ?_
  refine zaa 1 rfl ?_
  refine za rfl (jJ rfl (ev1 rfl) (ev1 rfl) (fun _ => qaC _ (by omega))) ?_
  refine za rfl (XF (j := us.length - 1) rfl w4 (ev1 rfl) (ev1 rfl) rfl (fun _ => by first | rfl | omega) (fun _ => by omega)) ?_
  refine za rfl (XG rfl jg (ev1 rfl) rfl (qy) (by omega)) ?_
  refine zar rfl (qQ rfl jg (ev1 rfl) (ev1 rfl) rfl (qy _) (yj _) ((qy _).trans (qy _).symm)) ?_
  refine zab ?_
  refine qb ?_
  refine qY [0, 1, 2] (rs1 rfl (yM jg rfl rfl (qy _))) rfl rfl ?_ ⟨rfl, rfl, rfl, trivial⟩
  rw [KJ (by omega)]
theorem Zc (a b : Int) (old : List TL) (k : Nat) (hk : k ≤ old.length) (hl : old.length ≤ 5000) : DFun Tryz.prog 112 [.val (.int .i64 (k : Int)), .loc 0 0] [.mix 146 [.loc 1 0], .mix 24 [.val (.int .i64 a), .val (.int .i64 b), .slf 256 old.length (old.flatMap tc)]] (.val (.agg (tc (q9 (old.take k))).toArray)) [.mix 146 [.loc 1 0], .mix 24 [.val (.int .i64 a), .val (.int .i64 b), .slf 256 old.length (old.flatMap tc)]] := by
 refine zap (N := 15) 2 (by kernel_rfl) Tryz.func112 rfl rfl rfl (by simp only [fr0, qau, qaw]; exact rfl) rfl fun s0 hs0 => ?_
 refine zae ?_
 refine zam 1 ?_
 refine zac ?_
 refine zaj rfl (zan 2 rfl yN rfl) ?_
 refine zab ?_
 refine zae ?_
 refine zah ?_
 refine zaa 1 rfl ?_
 refine za rfl (qv rfl (ev1 rfl) (ev1 rfl)) ?_
 refine zab ?_
 refine qe rfl (fun c1 => ?_) (fun c1 => ?_)
 ·try simp only [decide_eq_true_eq, decide_eq_false_iff_not, beq_iff_eq, bne_iff_ne, beq_eq_false_iff_ne, bne_eq_false_iff_eq, qaz, qaA, qav, qaB, qax, ne_eq, Decidable.not_not, qaQ, qaR] at c1
  obtain rfl : k = 0 := by omega
  refine zah ?_
  refine za rfl (wU rfl z2 yN) ?_
  refine zar rfl (qQ rfl jg (ev1 rfl) (ev1 rfl) rfl (qy _) (yj _) ((qy _).trans (qy _).symm)) ?_
  refine zab ?_
  refine qb ?_
  refine qY [0, 1] (rs1 rfl (yM jg rfl rfl (qy _))) rfl rfl ?_ ⟨rfl, rfl, trivial⟩
  rfl
 ·try simp only [decide_eq_true_eq, decide_eq_false_iff_not, beq_iff_eq, bne_iff_ne, beq_eq_false_iff_ne, bne_eq_false_iff_eq, qaz, qaA, qav, qaB, qax, ne_eq, Decidable.not_not, qaQ, qaR] at c1
  refine zao ?_
  refine zah ?_
  refine za rfl (zaq rfl Hk (ev1 rfl) rfl rfl) ?_
  refine za rfl (qw rfl (ev1 rfl) (fun s v h => by cases h; exact ⟨_, rfl⟩)) ?_
  refine za rfl (qa rfl yh (ev1 rfl)) ?_
  refine za rfl (zaq rfl xz (ev1 rfl) rfl rfl) ?_
  refine zaa 1 rfl ?_
  refine za rfl (jJ rfl (ev1 rfl) (ev1 rfl) (fun _ => qaC _ (by omega))) ?_
  refine za rfl (qP (j := k - 1) rfl w4 (ev1 rfl) (ev1 rfl) qy (by decide) (by omega) (by omega)) ?_
  refine za rfl (xI rfl jg (ev1 rfl) (qy _)) ?_
  refine zar rfl (qQ rfl jg (ev1 rfl) (ev1 rfl) rfl (qy _) (yj _) ((qy _).trans (qy _).symm)) ?_
  refine zab ?_
  refine qb ?_
  refine qY [0, 1] (rs1 rfl (yM jg rfl rfl (qy _))) rfl rfl ?_ ⟨rfl, rfl, trivial⟩
  rw [VH (by omega) hk]
theorem Zd (a b : Int) (old : List TL)  : DFun Tryz.prog 88 [.loc 0 0] [.mix 24 [.val (.int .i64 a), .val (.int .i64 b), .slf 256 old.length (old.flatMap tc)]] (.fn (.func 112) [] [.loc 1 0]) [.mix 24 [.val (.int .i64 a), .val (.int .i64 b), .slf 256 old.length (old.flatMap tc)], .mix 146 [.loc 0 0]] := by
 refine zap (N := 4) 1 (by kernel_rfl) Tryz.func88 rfl rfl rfl (by simp only [fr0, qau, qaw]; exact rfl) rfl fun s0 hs0 => ?_
 refine zae ?_
 refine zam 1 ?_
 refine zac ?_
 refine zaj rfl (ga 1 rfl (ev1 rfl) (fun s v h => by cases h <;> rfl) rfl) ?_
 refine zaa 1 rfl ?_
 refine zab ?_
 refine zah ?_
 refine za rfl (qV rfl en (ec (ev1 rfl) en)) ?_
 refine zaa 1 rfl ?_
 refine zab ?_
 refine qb ?_
 refine qY [0, 1] (rs1 rfl (qJ rfl)) rfl rfl ?_ ⟨rfl, rfl, trivial⟩
 rfl
end Go.Proofs.YtofklkbfkoliiaaGreat
namespace Go.Proofs.YtofklkbfkoliiaaGreat
set_option linter.unusedVariables false
set_option linter.unusedSimpArgs false
open Go.RowKit
attribute [local irreducible] k8 rdP rdN yc
theorem GG (B : List Int) (hB : B.length ≤ 4000000000000000000) (hi : isB B) (w h : Int) (p : Nat) : DFun Tryz.prog 88 [.loc 0 0] [.mix 158 [.val (.int .i64 w), .val (.int .i64 h), .val (.slice none 0 0), .slf 1 (B).length ((B).flatMap uc8), .val (.int .i64 ((p : Int) : Int))]] (.fn (.func 112) [] [.loc 1 0]) [.mix 158 [.val (.int .i64 w), .val (.int .i64 h), .val (.slice none 0 0), .slf 1 (B).length ((B).flatMap uc8), .val (.int .i64 ((p : Int) : Int))], .mix 146 [.loc 0 0]] := by
 refine zap (N := 4) 1 (by kernel_rfl) Tryz.func88 rfl rfl rfl (by simp only [fr0, qau, qaw]; exact rfl) rfl fun s0 hs0 => ?_
 refine zae ?_
 refine zam 1 ?_
 refine zac ?_
 refine zaj rfl (ga 1 rfl (ev1 rfl) (fun s v h => by cases h <;> rfl) rfl) ?_
 refine zaa 1 rfl ?_
 refine zab ?_
 refine zah ?_
 refine za rfl (qV rfl en (ec (ev1 rfl) en)) ?_
 refine zaa 1 rfl ?_
 refine zab ?_
 refine qb ?_
 refine qY [0, 1] (rs1 rfl (qJ rfl)) rfl rfl ?_ ⟨rfl, rfl, trivial⟩
 rfl
theorem Ze (B : List Int) (hB : B.length ≤ 4000000000000000000) (hi : isB B) (w h : Int) (n : Nat) (hm : gN w h = true) (hn : w * h = (n : Int)) (p0 : Nat) (hp0 : p0 ≤ B.length) (ts : List TL) (q : Nat) (h0 : gc q9 B n [] p0 = some (ts, q)) : DFun Tryz.prog 99 [.loc 0 0, .fn (.func 112) [] [.loc 1 0]] [.mix 158 [.val (.int .i64 w), .val (.int .i64 h), .val (.slice none 0 0), .slf 1 (B).length ((B).flatMap uc8), .val (.int .i64 ((p0 : Nat) : Int))], .mix 146 [.loc 0 0]] (.tup []) [.mix 158 [.val (.int .i64 w), .val (.int .i64 h), .arr 2, .slf 1 (B).length ((B).flatMap uc8), .val (.int .i64 ((q : Nat) : Int))], .mix 146 [.loc 0 0], .arr 84 256 (ts).length ((ts).flatMap tc)] := by
 have hb := wh hm
 refine zap (N := 28) 2 (by kernel_rfl) Tryz.func99 rfl rfl rfl (by simp only [fr0, qau, qaw]; exact rfl) rfl fun s0 hs0 => ?_
 refine zah ?_
 refine zaa 1 rfl ?_
 refine za rfl (qV rfl (ec (ev1 rfl) en) en) ?_
 refine zaa 1 rfl ?_
 refine zab ?_
 refine zae ?_
 refine vF (l' := [.val (.int .i64 w), .val (.int .i64 h), .arr 2, .slf 1 (B).length ((B).flatMap uc8), .val (.int .i64 (p0 : Int))]) 0 2 84 256 rfl rfl rfl rfl (by simp only [qaE, qaH, zad, zaf]; exact rfl) ?_
 refine jf 2 Ji rfl rfl (by simp only [qaE, qaH, zad, zaf, qaU, qbd, qau, qaw]; exact rfl) ?_
 refine qg [([], []), ([], []), ([], []), ([], []), ([0], []), ([], []), ([], []), ([], []), ([], []), ([0], []), ([], []), ([], [])] qU (by kernel_rfl) ?_
 refine zag rfl rfl (zal (.inl rfl) (ev1 rfl)) ?_
 refine zag rfl rfl (qw rfl (ev1 rfl) (fun s v h => by cases h; exact ⟨_, rfl⟩)) ?_
 refine zag rfl rfl (qa rfl k7 (ev1 rfl)) ?_
 refine zag rfl rfl (qa rfl y4 (ev1 rfl)) ?_
 refine zag rfl rfl (zaq rfl tb3 (ev1 rfl) rfl rfl) ?_
 refine zag rfl rfl (zal (.inl rfl) (ev1 rfl)) ?_
 refine zag rfl rfl (qw rfl (ev1 rfl) (fun s v h => by cases h; exact ⟨_, rfl⟩)) ?_
 refine zag rfl rfl (qa rfl k7 (ev1 rfl)) ?_
 refine zag rfl rfl (qa rfl y5 (ev1 rfl)) ?_
 refine zag rfl rfl (zaq rfl tb3 (ev1 rfl) rfl rfl) ?_
 refine zag rfl rfl (jp rfl (ev1 rfl) (ev1 rfl) (fun _ => qaC _ (by omega))) ?_
 refine zag rfl rfl (zal (.inl rfl) (ev1 rfl)) ?_
 refine qp ?_
 refine zas ?_
 refine qI ⟨hs0, rfl⟩ (α := List TL × Nat) (fun x => [(19, .val (.int .i64 (x.1.length : Int)))]) [(1, _), (4, _), (18, _)] (fun x => [(0, .mix 158 [.val (.int .i64 w), .val (.int .i64 h), .arr 2, .slf 1 (B).length ((B).flatMap uc8), .val (.int .i64 ((x.2 : Nat) : Int))]), (2, .arr 84 256 (x.1).length ((x.1).flatMap tc))]) [.hole, _, .hole] (fun x => x.1.length ≤ n ∧ x.2 ≤ B.length ∧ gc q9 B (n - x.1.length) x.1 x.2 = some (ts, q)) (fun x => n - x.1.length) ([], p0) [0, 1, 2] (⟨qa5 _, hp0, h0⟩) rfl ⟨rfl, rfl, rfl, trivial⟩ ⟨rfl, trivial⟩ ⟨rfl, rfl, rfl, trivial⟩ ?_
 intro x hx
 simp only [upd, zad, zaf, qaE, qaH]
 obtain ⟨us, p⟩ := x
 obtain ⟨hul, hp, hrd⟩ := hx
 dsimp only at hul hp hrd ⊢
 refine zah ?_
 refine za rfl (qA rfl (ev1 rfl) (ev1 rfl)) ?_
 refine zab ?_
 refine zae ?_
 refine qe rfl (fun c1 => ?_) (fun c1 => ?_)
 ·try simp only [decide_eq_true_eq, decide_eq_false_iff_not, beq_iff_eq, bne_iff_ne, beq_eq_false_iff_ne, bne_eq_false_iff_eq, qaz, qaA, qav, qaB, qax, ne_eq, Decidable.not_not, qaQ, qaR] at c1
  have hlt : us.length < n := by omega
  refine zao ?_
  refine zae ?_
  refine zas ?_
  refine zah ?_
  refine zaa 2 rfl ?_
  refine zab ?_
  by_cases hz : zrB B p = true
  ·refine zam 1 ?_
   refine zac ?_
   refine zaa 3 rfl ?_
   refine zaj rfl (zai [0, 2, 1] [] [] rfl (ev1 rfl) (ec (ev1 rfl) en) rfl rfl (uN B hB w h us (by omega) p) rfl rfl rfl rfl rfl rfl) ?_
   refine zaj rfl (zai [0, 2] [] [3] rfl (ev1 rfl) (ec (ev1 rfl) en) rfl rfl (Ur B hB w h us (by omega) hi (q9 us) p hp (zrB_iff.1 hz)) rfl rfl rfl rfl rfl rfl) ?_
   refine zab ?_
   refine zac ?_
   refine za rfl (qh rfl (ev1 rfl) (ev1 rfl) (fun _ => qaC _ (by omega))) ?_
   refine zaa 1 rfl ?_
   refine zab ?_
   refine ⟨(us ++ [q9 us], p + 1), [0, 1, 3], ⟨by rw [qaD]; exact hlt, (zrB_iff.1 hz).1, by rw [qaD]; exact YM (n := n - us.length) (by omega) hz hrd⟩, by simp only [qaD, qaU, qbd]; omega, rfl, ⟨by rw [qaD]; rfl, rfl, rfl, rfl, trivial⟩, ⟨rfl, rfl, rfl, trivial⟩⟩
  ·obtain ⟨l, q1, hl0, hne⟩ := KI (n := n - us.length) (by omega) hz hrd
   refine zam 1 ?_
   refine zac ?_
   refine zaa 3 rfl ?_
   refine zaj rfl (zai [0, 2, 1] [] [] rfl (ev1 rfl) (ec (ev1 rfl) en) rfl rfl (uN B hB w h us (by omega) p) rfl rfl rfl rfl rfl rfl) ?_
   refine zaj rfl (zai [0, 2] [] [3] rfl (ev1 rfl) (ec (ev1 rfl) en) rfl rfl (Us B hB w h us (by omega) hi (q9 us) p hp (fun e => hz (zrB_iff.2 e)) l q1 hl0 hne) rfl rfl rfl rfl rfl rfl) ?_
   refine zab ?_
   refine zac ?_
   refine za rfl (qh rfl (ev1 rfl) (ev1 rfl) (fun _ => qaC _ (by omega))) ?_
   refine zaa 1 rfl ?_
   refine zab ?_
   refine ⟨(us ++ [k8 l], q1), [0, 1, 3], ⟨by rw [qaD]; exact hlt, (Jo hl0).1, by rw [qaD]; exact YN (n := n - us.length) (by omega) hz hl0 hne hrd⟩, by simp only [qaD, qaU, qbd]; omega, rfl, ⟨by rw [qaD]; rfl, rfl, rfl, rfl, trivial⟩, ⟨rfl, rfl, rfl, trivial⟩⟩
 ·try simp only [decide_eq_true_eq, decide_eq_false_iff_not, beq_iff_eq, bne_iff_ne, beq_eq_false_iff_ne, bne_eq_false_iff_eq, qaz, qaA, qav, qaB, qax, ne_eq, Decidable.not_not, qaQ, qaR] at c1
  refine qr ?_
  have e0 : n - us.length = 0 := by omega
  rw [e0] at hrd
  have hrd2 : some (us, p) = some (ts, q) := hrd
  cases hrd2
  refine qY [0, 1, 2] (qF rfl) rfl rfl ?_ ⟨rfl, rfl, rfl, trivial⟩
  rfl
theorem Ut (B : List Int) (hB : B.length ≤ 4000000000000000000) (hi : isB B) (w h : Int) (n : Nat) (hm : gN w h = true) (hn : w * h = (n : Int)) (p0 : Nat) (hp0 : p0 ≤ B.length) (h0 : gc q9 B n [] p0 = none) : DPanL Tryz.prog 99 [.loc 0 0, .fn (.func 112) [] [.loc 1 0]] [.mix 158 [.val (.int .i64 w), .val (.int .i64 h), .val (.slice none 0 0), .slf 1 (B).length ((B).flatMap uc8), .val (.int .i64 ((p0 : Nat) : Int))], .mix 146 [.loc 0 0]] (.ifc 181 (.val (.agg #[]))) := by
 have hb := wh hm
 refine zap (N := 28) 2 (by kernel_rfl) Tryz.func99 rfl rfl rfl (by simp only [fr0, qau, qaw]; exact rfl) rfl fun s0 hs0 => ?_
 refine zah ?_
 refine zaa 1 rfl ?_
 refine za rfl (qV rfl (ec (ev1 rfl) en) en) ?_
 refine zaa 1 rfl ?_
 refine zab ?_
 refine zae ?_
 refine vF (l' := [.val (.int .i64 w), .val (.int .i64 h), .arr 2, .slf 1 (B).length ((B).flatMap uc8), .val (.int .i64 (p0 : Int))]) 0 2 84 256 rfl rfl rfl rfl (by simp only [qaE, qaH, zad, zaf]; exact rfl) ?_
 refine jf 2 Ji rfl rfl (by simp only [qaE, qaH, zad, zaf, qaU, qbd, qau, qaw]; exact rfl) ?_
 refine qg [([], []), ([], []), ([], []), ([], []), ([0], []), ([], []), ([], []), ([], []), ([], []), ([0], []), ([], []), ([], [])] qU (by kernel_rfl) ?_
 refine zag rfl rfl (zal (.inl rfl) (ev1 rfl)) ?_
 refine zag rfl rfl (qw rfl (ev1 rfl) (fun s v h => by cases h; exact ⟨_, rfl⟩)) ?_
 refine zag rfl rfl (qa rfl k7 (ev1 rfl)) ?_
 refine zag rfl rfl (qa rfl y4 (ev1 rfl)) ?_
 refine zag rfl rfl (zaq rfl tb3 (ev1 rfl) rfl rfl) ?_
 refine zag rfl rfl (zal (.inl rfl) (ev1 rfl)) ?_
 refine zag rfl rfl (qw rfl (ev1 rfl) (fun s v h => by cases h; exact ⟨_, rfl⟩)) ?_
 refine zag rfl rfl (qa rfl k7 (ev1 rfl)) ?_
 refine zag rfl rfl (qa rfl y5 (ev1 rfl)) ?_
 refine zag rfl rfl (zaq rfl tb3 (ev1 rfl) rfl rfl) ?_
 refine zag rfl rfl (jp rfl (ev1 rfl) (ev1 rfl) (fun _ => qaC _ (by omega))) ?_
 refine zag rfl rfl (zal (.inl rfl) (ev1 rfl)) ?_
 refine qp ?_
 refine zas ?_
 refine qI ⟨hs0, rfl⟩ (α := List TL × Nat) (fun x => [(19, .val (.int .i64 (x.1.length : Int)))]) [(1, _), (4, _), (18, _)] (fun x => [(0, .mix 158 [.val (.int .i64 w), .val (.int .i64 h), .arr 2, .slf 1 (B).length ((B).flatMap uc8), .val (.int .i64 ((x.2 : Nat) : Int))]), (2, .arr 84 256 (x.1).length ((x.1).flatMap tc))]) [.hole, _, .hole] (fun x => x.1.length ≤ n ∧ x.2 ≤ B.length ∧ gc q9 B (n - x.1.length) x.1 x.2 = none) (fun x => n - x.1.length) ([], p0) [0, 1, 2] (⟨qa5 _, hp0, h0⟩) rfl ⟨rfl, rfl, rfl, trivial⟩ ⟨rfl, trivial⟩ ⟨rfl, rfl, rfl, trivial⟩ ?_
 intro x hx
 simp only [upd, zad, zaf, qaE, qaH]
 obtain ⟨us, p⟩ := x
 obtain ⟨hul, hp, hrd⟩ := hx
 dsimp only at hul hp hrd ⊢
 refine zah ?_
 refine za rfl (qA rfl (ev1 rfl) (ev1 rfl)) ?_
 refine zab ?_
 refine zae ?_
 refine qe rfl (fun c1 => ?_) (fun c1 => ?_)
 ·try simp only [decide_eq_true_eq, decide_eq_false_iff_not, beq_iff_eq, bne_iff_ne, beq_eq_false_iff_ne, bne_eq_false_iff_eq, qaz, qaA, qav, qaB, qax, ne_eq, Decidable.not_not, qaQ, qaR] at c1
  have hlt : us.length < n := by omega
  refine zao ?_
  refine zae ?_
  refine zas ?_
  refine zah ?_
  refine zaa 2 rfl ?_
  refine zab ?_
  by_cases hz : zrB B p = true
  ·refine zam 1 ?_
   refine zac ?_
   refine zaa 3 rfl ?_
   refine zaj rfl (zai [0, 2, 1] [] [] rfl (ev1 rfl) (ec (ev1 rfl) en) rfl rfl (uN B hB w h us (by omega) p) rfl rfl rfl rfl rfl rfl) ?_
   refine zaj rfl (zai [0, 2] [] [3] rfl (ev1 rfl) (ec (ev1 rfl) en) rfl rfl (Ur B hB w h us (by omega) hi (q9 us) p hp (zrB_iff.1 hz)) rfl rfl rfl rfl rfl rfl) ?_
   refine zab ?_
   refine zac ?_
   refine za rfl (qh rfl (ev1 rfl) (ev1 rfl) (fun _ => qaC _ (by omega))) ?_
   refine zaa 1 rfl ?_
   refine zab ?_
   refine ⟨(us ++ [q9 us], p + 1), [0, 1, 3], ⟨by rw [qaD]; exact hlt, (zrB_iff.1 hz).1, by rw [qaD]; exact YM (n := n - us.length) (by omega) hz hrd⟩, by simp only [qaD, qaU, qbd]; omega, rfl, ⟨by rw [qaD]; rfl, rfl, rfl, rfl, trivial⟩, ⟨rfl, rfl, rfl, trivial⟩⟩
  ·by_cases hno : ∀ l q, rdN B p = some (l, q) → k8 l = q9 us
   ·refine zac ?_
    refine zaa 3 rfl ?_
    refine zaj rfl (zai [0, 2, 1] [] [] rfl (ev1 rfl) (ec (ev1 rfl) en) rfl rfl (uN B hB w h us (by omega) p) rfl rfl rfl rfl rfl rfl) ?_
    refine qZ rfl (qE [0, 2] [] [] rfl (ev1 rfl) (ec (ev1 rfl) en) rfl rfl ((AF B hB w h us (by omega) hi (q9 us) p hp (fun e => hz (zrB_iff.2 e)) hno).dead) rfl rfl rfl rfl rfl rfl) rfl ?_
    refine vf (Mo := [_, _]) [0, 1] rfl rfl ?_ ⟨rfl, rfl, trivial⟩ rfl
    rfl
   ·obtain ⟨l, q1, hl0, hne⟩ : ∃ l q, rdN B p = some (l, q) ∧ k8 l ≠ q9 us := by simpa using hno
    refine zam 1 ?_
    refine zac ?_
    refine zaa 3 rfl ?_
    refine zaj rfl (zai [0, 2, 1] [] [] rfl (ev1 rfl) (ec (ev1 rfl) en) rfl rfl (uN B hB w h us (by omega) p) rfl rfl rfl rfl rfl rfl) ?_
    refine zaj rfl (zai [0, 2] [] [3] rfl (ev1 rfl) (ec (ev1 rfl) en) rfl rfl (Us B hB w h us (by omega) hi (q9 us) p hp (fun e => hz (zrB_iff.2 e)) l q1 hl0 hne) rfl rfl rfl rfl rfl rfl) ?_
    refine zab ?_
    refine zac ?_
    refine za rfl (qh rfl (ev1 rfl) (ev1 rfl) (fun _ => qaC _ (by omega))) ?_
    refine zaa 1 rfl ?_
    refine zab ?_
    refine ⟨(us ++ [k8 l], q1), [0, 1, 3], ⟨by rw [qaD]; exact hlt, (Jo hl0).1, by rw [qaD]; exact YN (n := n - us.length) (by omega) hz hl0 hne hrd⟩, by simp only [qaD, qaU, qbd]; omega, rfl, ⟨by rw [qaD]; rfl, rfl, rfl, rfl, trivial⟩, ⟨rfl, rfl, rfl, trivial⟩⟩
 ·have c2 : ¬ ((us.length : Int) < w * h) := by simpa using c1
  have e0 : n - us.length = 0 := by omega
  rw [e0] at hrd
  exact absurd (show some (us, p) = none from hrd) (fun e => by cases e)
end Go.Proofs.YtofklkbfkoliiaaGreat
namespace Go.Proofs.YtofklkbfkoliiaaGreat
set_option linter.unusedVariables false
set_option linter.unusedSimpArgs false
open Go.RowKit
attribute [local irreducible] k8 rdP rdN yc gc
theorem Uu (w h : Int) (us : List TL) (n e : Int) : DDef Tryz.prog 96 [.loc 0 0, .loc 1 0, .loc 2 0] [.mix 24 [.val (.int .i64 w), .val (.int .i64 h), .arr 3], .flat 3 [.int .i64 n], .flat 34 [.int .i64 e], .arr 84 256 (us).length ((us).flatMap tc)] none none [.mix 24 [.val (.int .i64 w), .val (.int .i64 h), .arr 3], .flat 3 [.int .i64 n], .flat 34 [.int .i64 e], .arr 84 256 (us).length ((us).flatMap tc)] := by
 refine uz (dr := .tup []) (t := 3) (N := 6) 4 (by kernel_rfl) Tryz.func96 rfl rfl rfl (by simp only [fr0, qau, qaw]; exact rfl) rfl rfl rfl rfl rfl fun s0 hs0 => ?_
 refine za rfl (zai [] [] [] rfl (ev1 rfl) (ec (ev1 rfl) en) rfl rfl (VE) rfl rfl rfl rfl rfl rfl) ?_
 refine zab ?_
 refine qc rfl (rfl) ?_
 refine zao ?_
 refine qY [0, 1, 2, 3] (qF rfl) rfl rfl ?_ ⟨rfl, rfl, rfl, rfl, trivial⟩
 rfl
theorem w5 (n e : Int) : DDef Tryz.prog 96 [.loc 0 0, .loc 1 0, .loc 2 0] [.flat 24 [.int .i64 0, .int .i64 0, .slice none 0 0], .flat 3 [.int .i64 n], .flat 34 [.int .i64 e]] (some (.ifc 181 (.val (.agg #[])))) none [.flat 24 [.int .i64 0, .int .i64 0, .slice none 0 0], .flat 3 [.int .i64 0], .flat 34 [.int .i64 200]] := by
 refine uz (dr := .tup []) (t := 3) (N := 6) 3 (by kernel_rfl) Tryz.func96 rfl rfl rfl (by simp only [fr0, qau, qaw]; exact rfl) rfl rfl rfl rfl rfl fun s0 hs0 => ?_
 refine za rfl (zai [] [] [] rfl (ev1 rfl) (ec (ev1 rfl) en) rfl rfl (Un) rfl rfl rfl rfl rfl rfl) ?_
 refine zab ?_
 refine qM rfl (rfl) ?_
 refine zac ?_
 refine za rfl (kW rfl fl24 Vo) ?_
 refine zar rfl (qQ rfl vT (ev1 rfl) (ev1 rfl) rfl rfl rfl rfl) ?_
 refine zar rfl (qH rfl tb3 (ev1 rfl) (ev1 rfl) rfl) ?_
 refine zar rfl (qH rfl qT (ev1 rfl) (ev1 rfl) rfl) ?_
 refine zab ?_
 refine qY [0, 1, 2] (qF rfl) rfl rfl ?_ ⟨rfl, rfl, rfl, trivial⟩
 rfl
theorem rdc_y (B : List Int) (hB : B.length ≤ 4000000000000000000) (hi : isB B) (n : Nat) (h2 : 0 + 2 ≤ B.length) (hm : gN (bAt B 0) (bAt B 1) = true) (hn : bAt B 0 * bAt B 1 = (n : Int)) (ts : List TL) (q : Nat) (h0 : gc q9 B n [] 2 = some (ts, q)) : DFun Tryz.prog 59 [.slf 1 (B).length ((B).flatMap uc8)] [] (.tup [.agg [.val (.int .i64 (bAt B 0)), .val (.int .i64 (bAt B 1)), .arr 0], .val (.int .i64 (q : Nat)), .val (.int .i64 0)]) [.arr 84 256 (ts).length ((ts).flatMap tc)] := by
 refine qj (N := 17) 0 (by kernel_rfl) Tryz.func59 rfl rfl rfl (by simp only [fr0, qau, qaw]; exact rfl) rfl fun s0 hs0 => ?_
 refine qD rfl hs0 ?_
 refine zam 3 ?_
 refine zac ?_
 refine zaj rfl (zan 0 rfl Vo rfl) ?_
 refine zaj rfl (zan 1 rfl zr3 rfl) ?_
 refine zaj rfl (zan 2 rfl jO rfl) ?_
 refine zab ?_
 refine qn (l0 := [_]) rfl rfl rfl rfl rfl hs0 ?_
 refine za rfl (qV rfl en (ec (ev1 rfl) (ec (ev1 rfl) (ec (ev1 rfl) en)))) ?_
 refine zab ⟨_, _, _, 3, ev1 rfl, qaM hs0 (by decide), rfl, ?_⟩
 have hs1 : s0.M.length ≤ 3 := qaM hs0 (by decide)
 refine qC rfl hs0 ?_
 refine zae ?_
 refine zam 1 ?_
 refine zac ?_
 refine zaa 1 rfl ?_
 refine za rfl (kX (ps := [(1, .tmp 7)]) rfl Qy xu (ec (ev1 rfl) en) rfl rfl rfl) ?_
 refine zaj rfl (zan 3 rfl xu rfl) ?_
 refine zar rfl (kt rfl QB (ev1 rfl) (ev1 rfl) rfl rfl rfl rfl) ?_
 refine zab ?_
 refine zah ?_
 refine zaj rfl (zai [3] [] [] rfl (ev1 rfl) (ec (ev1 rfl) en) rfl rfl (GF B hB hi n h2 hm hn) rfl rfl rfl rfl rfl rfl) ?_
 refine zab ?_
 refine zae ?_
 refine zam 2 ?_
 refine zac ?_
 refine za rfl (qa rfl k7 (ev1 rfl)) ?_
 refine zaj rfl (zai [3] [] [4] rfl (ev1 rfl) (ec (ev1 rfl) en) rfl rfl (GG B hB hi (bAt B 0) (bAt B 1) 2) rfl rfl rfl rfl rfl rfl) ?_
 refine zaj rfl (zai [3, 4] [] [5] rfl (ev1 rfl) (ec (ev1 rfl) (ec (ev1 rfl) en)) rfl rfl (Ze B hB hi (bAt B 0) (bAt B 1) n hm hn 2 h2 ts q h0) rfl rfl rfl rfl rfl rfl) ?_
 refine zab ?_
 refine zae ?_
 refine qg [([], []), ([3], []), ([], []), ([3], []), ([0], [0]), ([1], [1]), ([2], [2])] qU (by kernel_rfl) ?_
 refine zag rfl rfl (qa rfl k7 (ev1 rfl)) ?_
 refine zag rfl rfl (uF rfl vT (ev1 rfl) rfl rfl rfl) ?_
 refine zag rfl rfl (qa rfl kT (ev1 rfl)) ?_
 refine zag rfl rfl (zaq rfl tb3 (ev1 rfl) rfl rfl) ?_
 refine gt rfl rfl (kt rfl vT (ev1 rfl) (ev1 rfl) rfl rfl rfl rfl) rfl (by simp only [upd, zad, zaf]; exact rfl) ?_
 refine gt rfl rfl (qH rfl tb3 (ev1 rfl) (ev1 rfl) rfl) rfl (by simp only [upd, zad, zaf]; exact rfl) ?_
 refine gt rfl rfl (qH rfl qT (ev1 rfl) (ev1 rfl) rfl) rfl (by simp only [upd, zad, zaf]; exact rfl) ?_
 refine qp ?_
 refine qb ?_
 refine jI (kF [0, 1, 2, 5] [] rfl rfl (Uu _ _ _ _ _) rfl rfl rfl rfl rfl) ?_
 refine qY [5] (rs3 rfl (we vT rfl rfl rfl) (js tb3 rfl rfl rfl) (js qT rfl rfl rfl)) rfl rfl ?_ ⟨rfl, trivial⟩
 rfl
theorem AG (B : List Int) (hB : B.length ≤ 4000000000000000000) (hi : isB B) (n : Nat) (h2 : 0 + 2 ≤ B.length) (hm : gN (bAt B 0) (bAt B 1) = true) (hn : bAt B 0 * bAt B 1 = (n : Int)) (h0 : gc q9 B n [] 2 = none) : DFun Tryz.prog 59 [.slf 1 (B).length ((B).flatMap uc8)] [] (.tup [.val (.agg #[.int .i64 0, .int .i64 0, .slice none 0 0]), .val (.int .i64 0), .val (.int .i64 200)]) [] := by
 refine qj (N := 17) 0 (by kernel_rfl) Tryz.func59 rfl rfl rfl (by simp only [fr0, qau, qaw]; exact rfl) rfl fun s0 hs0 => ?_
 refine qD rfl hs0 ?_
 refine zam 3 ?_
 refine zac ?_
 refine zaj rfl (zan 0 rfl Vo rfl) ?_
 refine zaj rfl (zan 1 rfl zr3 rfl) ?_
 refine zaj rfl (zan 2 rfl jO rfl) ?_
 refine zab ?_
 refine qn (l0 := [_]) rfl rfl rfl rfl rfl hs0 ?_
 refine za rfl (qV rfl en (ec (ev1 rfl) (ec (ev1 rfl) (ec (ev1 rfl) en)))) ?_
 refine zab ⟨_, _, _, 3, ev1 rfl, qaM hs0 (by decide), rfl, ?_⟩
 have hs1 : s0.M.length ≤ 3 := qaM hs0 (by decide)
 refine qC rfl hs0 ?_
 refine zae ?_
 refine zam 1 ?_
 refine zac ?_
 refine zaa 1 rfl ?_
 refine za rfl (kX (ps := [(1, .tmp 7)]) rfl Qy xu (ec (ev1 rfl) en) rfl rfl rfl) ?_
 refine zaj rfl (zan 3 rfl xu rfl) ?_
 refine zar rfl (kt rfl QB (ev1 rfl) (ev1 rfl) rfl rfl rfl rfl) ?_
 refine zab ?_
 refine zah ?_
 refine zaj rfl (zai [3] [] [] rfl (ev1 rfl) (ec (ev1 rfl) en) rfl rfl (GF B hB hi n h2 hm hn) rfl rfl rfl rfl rfl rfl) ?_
 refine zab ?_
 refine zae ?_
 refine zam 1 ?_
 refine zac ?_
 refine za rfl (qa rfl k7 (ev1 rfl)) ?_
 refine zaj rfl (zai [3] [] [4] rfl (ev1 rfl) (ec (ev1 rfl) en) rfl rfl (GG B hB hi (bAt B 0) (bAt B 1) 2) rfl rfl rfl rfl rfl rfl) ?_
 refine qZ rfl (qE [3, 4] [] [] rfl (ev1 rfl) (ec (ev1 rfl) (ec (ev1 rfl) en)) rfl rfl ((Ut B hB hi (bAt B 0) (bAt B 1) n hm hn 2 h2 h0).dead) rfl rfl rfl rfl rfl rfl) rfl ?_
 refine jI (qL [0, 1, 2] [] rfl rfl rfl (w5 _ _) rfl rfl rfl rfl rfl) ?_
 refine qx (rs3 rfl (yM vT rfl rfl rfl) (js tb3 rfl rfl rfl) (js qT rfl rfl rfl)) rfl ?_
 rfl
theorem AH (B : List Int) (hB : B.length ≤ 4000000000000000000) (hi : isB B) (h2 : ¬ 0 + 2 ≤ B.length) : DFun Tryz.prog 59 [.slf 1 (B).length ((B).flatMap uc8)] [] (.tup [.val (.agg #[.int .i64 0, .int .i64 0, .slice none 0 0]), .val (.int .i64 0), .val (.int .i64 200)]) [] := by
 refine qj (N := 17) 0 (by kernel_rfl) Tryz.func59 rfl rfl rfl (by simp only [fr0, qau, qaw]; exact rfl) rfl fun s0 hs0 => ?_
 refine qD rfl hs0 ?_
 refine zam 3 ?_
 refine zac ?_
 refine zaj rfl (zan 0 rfl Vo rfl) ?_
 refine zaj rfl (zan 1 rfl zr3 rfl) ?_
 refine zaj rfl (zan 2 rfl jO rfl) ?_
 refine zab ?_
 refine qn (l0 := [_]) rfl rfl rfl rfl rfl hs0 ?_
 refine za rfl (qV rfl en (ec (ev1 rfl) (ec (ev1 rfl) (ec (ev1 rfl) en)))) ?_
 refine zab ⟨_, _, _, 3, ev1 rfl, qaM hs0 (by decide), rfl, ?_⟩
 have hs1 : s0.M.length ≤ 3 := qaM hs0 (by decide)
 refine qC rfl hs0 ?_
 refine zae ?_
 refine zam 1 ?_
 refine zac ?_
 refine zaa 1 rfl ?_
 refine za rfl (kX (ps := [(1, .tmp 7)]) rfl Qy xu (ec (ev1 rfl) en) rfl rfl rfl) ?_
 refine zaj rfl (zan 3 rfl xu rfl) ?_
 refine zar rfl (kt rfl QB (ev1 rfl) (ev1 rfl) rfl rfl rfl rfl) ?_
 refine zab ?_
 refine zah ?_
 refine qZ rfl (qE [3] [] [] rfl (ev1 rfl) (ec (ev1 rfl) en) rfl rfl ((Uo B hB hi h2).dead) rfl rfl rfl rfl rfl rfl) rfl ?_
 refine jI (qL [0, 1, 2] [] rfl rfl rfl (w5 _ _) rfl rfl rfl rfl rfl) ?_
 refine qx (rs3 rfl (yM vT rfl rfl rfl) (js tb3 rfl rfl rfl) (js qT rfl rfl rfl)) rfl ?_
 rfl
theorem AI (B : List Int) (hB : B.length ≤ 4000000000000000000) (hi : isB B) (h2 : 0 + 2 ≤ B.length) (hm : gN (bAt B 0) (bAt B 1) = false) : DFun Tryz.prog 59 [.slf 1 (B).length ((B).flatMap uc8)] [] (.tup [.val (.agg #[.int .i64 0, .int .i64 0, .slice none 0 0]), .val (.int .i64 0), .val (.int .i64 200)]) [] := by
 refine qj (N := 17) 0 (by kernel_rfl) Tryz.func59 rfl rfl rfl (by simp only [fr0, qau, qaw]; exact rfl) rfl fun s0 hs0 => ?_
 refine qD rfl hs0 ?_
 refine zam 3 ?_
 refine zac ?_
 refine zaj rfl (zan 0 rfl Vo rfl) ?_
 refine zaj rfl (zan 1 rfl zr3 rfl) ?_
 refine zaj rfl (zan 2 rfl jO rfl) ?_
 refine zab ?_
 refine qn (l0 := [_]) rfl rfl rfl rfl rfl hs0 ?_
 refine za rfl (qV rfl en (ec (ev1 rfl) (ec (ev1 rfl) (ec (ev1 rfl) en)))) ?_
 refine zab ⟨_, _, _, 3, ev1 rfl, qaM hs0 (by decide), rfl, ?_⟩
 have hs1 : s0.M.length ≤ 3 := qaM hs0 (by decide)
 refine qC rfl hs0 ?_
 refine zae ?_
 refine zam 1 ?_
 refine zac ?_
 refine zaa 1 rfl ?_
 refine za rfl (kX (ps := [(1, .tmp 7)]) rfl Qy xu (ec (ev1 rfl) en) rfl rfl rfl) ?_
 refine zaj rfl (zan 3 rfl xu rfl) ?_
 refine zar rfl (kt rfl QB (ev1 rfl) (ev1 rfl) rfl rfl rfl rfl) ?_
 refine zab ?_
 refine zah ?_
 refine qZ rfl (qE [3] [] [] rfl (ev1 rfl) (ec (ev1 rfl) en) rfl rfl ((Up B hB hi h2 hm).dead) rfl rfl rfl rfl rfl rfl) rfl ?_
 refine jI (qL [0, 1, 2] [] rfl rfl rfl (w5 _ _) rfl rfl rfl rfl rfl) ?_
 refine qx (rs3 rfl (yM vT rfl rfl rfl) (js tb3 rfl rfl rfl) (js qT rfl rfl rfl)) rfl ?_
 rfl
theorem KK {w h : Int} {ts : List TL} (hr : jd w h ts = true) : gN w h = true := by
 unfold jd at hr
 rw [qav] at hr
 exact hr.1
end Go.Proofs.YtofklkbfkoliiaaGreat
namespace Go.Proofs.YtofklkbfkoliiaaGreat
set_option linter.unusedVariables false
set_option linter.unusedSimpArgs false
open Go.RowKit
attribute [local irreducible] kz kZ yd gy qR
def wJ (t u : TL) : List Int := if t = u then [0] else gy t
theorem zH (kn : List TL → TL) : ∀ (a acc b : List TL), qR kn acc (a ++ b) = qR kn acc a ++ qR kn (acc ++ a) b
 | [], acc, b => by rw [qaH, qbk, qR, qaH]
 | t :: a, acc, b => by
  rw [qaE, qR, qR, zH kn a (acc ++ [t]) b, qa1, qa1]
  rfl
theorem xw (kn : List TL → TL) {ts : List TL} {k : Nat} (hk : k < ts.length) : qR kn [] (ts.take (k + 1)) = qR kn [] (ts.take k) ++ wJ ts[k] (kn (ts.take k)) := by
 rw [qa0 hk, zH, qaH]
 congr 1
 rw [qR, qR, qbk]
 rfl
theorem KL (t : TL) : (gy t).length ≤ 320 := by
 have h1 := uK t.l
 have h2 := t.h
 unfold gy
 rw [zD]
 omega
theorem VI (t u : TL) : (wJ t u).length ≤ 320 := by
 unfold wJ
 split
 ·simp
 ·exact KL t
theorem w6 (kn : List TL → TL) : ∀ (ts acc : List TL), (qR kn acc ts).length ≤ ts.length * 320
 | [], _ => by rw [qR]; simp
 | t :: ts, acc => by
  have h1 := w6 kn ts (acc ++ [t])
  have h2 := VI t (kn acc)
  unfold wJ at h2
  rw [qR, qaD, qaU]
  omega
theorem w7 (kn : List TL → TL) (acc : List TL) : qR kn acc [] = [] := by rw [qR]
theorem Hu (out b : List Int) : out.flatMap uc8 ++ b.flatMap uc8 = (out ++ b).flatMap uc8 := by rw [qbg]
theorem Zf (a b : Int) (old : List TL) (k : Nat) (hk : k ≤ old.length) (hl : old.length ≤ 5000) (out : List Int) (hout : out.length ≤ 100000) (t : TL) : DFun Tryz.prog 110 [.arr 0, .val (.int .i64 (k : Int)), tD t, .loc 1 0] [.arr 5 1 (out).length ((out).flatMap uc8), .mix 144 [.fn (.func 112) [] [.loc 2 0]], .mix 146 [.loc 3 0], .mix 24 [.val (.int .i64 a), .val (.int .i64 b), .slf 256 old.length (old.flatMap tc)]] (.arr 4) [.gone, .mix 144 [.fn (.func 112) [] [.loc 2 0]], .mix 146 [.loc 3 0], .mix 24 [.val (.int .i64 a), .val (.int .i64 b), .slf 256 old.length (old.flatMap tc)], .arr 5 1 ((out ++ wJ t (q9 (old.take k)))).length (((out ++ wJ t (q9 (old.take k)))).flatMap uc8)] := by
 have htl := KL t
 refine zap (N := 20) 4 (by kernel_rfl) Tryz.func110 rfl rfl rfl (by simp only [fr0, qau, qaw]; exact rfl) rfl fun s0 hs0 => ?_
 refine J3 (i := 0) rfl fun hl0 hL0 => ?_
 refine zae ?_
 refine zam 1 ?_
 refine zac ?_
 refine zaj rfl (gC 4 rfl (ev1 rfl) rfl) ?_
 refine zaa 1 rfl ?_
 refine zab ?_
 refine zae ?_
 refine zae ?_
 refine qg [([4], []), ([1], []), ([], []), ([2, 3], [2, 3]), ([], [])] qU (by kernel_rfl) ?_
 refine zag rfl rfl (kv rfl jg (ev1 rfl) rfl (qy _)) ?_
 refine zag rfl rfl (zaq rfl tb144 (ev1 rfl) rfl rfl) ?_
 refine zag rfl rfl (zal (.inl rfl) (ev1 rfl)) ?_
 refine gf rfl rfl (zai [2, 3] [] [] rfl (ev1 rfl) (ec (ev1 rfl) en) rfl rfl (Zc a b old k hk hl) rfl rfl rfl rfl rfl rfl) rfl (by simp only [upd, zad, zaf]; exact rfl) ?_
 refine zag rfl rfl (vv eq84 rfl gd84 jg (ev1 rfl) (ev1 rfl)) ?_
 refine qp ?_
 refine qe rfl (fun c1 => ?_) (fun c1 => ?_)
 ·have c2 : t = (q9 (old.take k)) := by simpa using c1
  refine zae ?_
  refine zam 2 ?_
  refine zac ?_
  refine zaa 1 rfl ?_
  refine zaj rfl (zh (ps := [(0, .const (.int .u8 0))]) 5 rfl qu zr5 rfl (vc (ev1 rfl) vn) rfl (by decide) (by decide) rfl) ?_
  refine zaj rfl (vt (j := 6) rfl qu zr5 rfl (ev1 rfl) (ev1 rfl) (K2 rfl) rfl rfl (fun _ => rfl) (fun _ => ⟨by omega, by omega⟩)) ?_
  refine zaa 1 rfl ?_
  refine zab ?_
  refine qb ?_
  refine qY [0, 1, 2, 3, 6] (rs1 rfl (qJ rfl)) rfl rfl ?_ ⟨rfl, rfl, rfl, rfl, vA (by unfold wJ; rw [if_pos c2, qaD]; rfl) (by unfold wJ; rw [if_pos c2, ← Hu]; rfl), trivial⟩
  rfl
 ·have c2 : t ≠ (q9 (old.take k)) := by simpa using c1
  refine zao ?_
  refine zae ?_
  refine zam 1 ?_
  refine zac ?_
  refine zaa 1 rfl ?_
  refine za rfl (kv rfl jg (ev1 rfl) rfl (qy _)) ?_
  refine za rfl (zai [] [] [] rfl (ev1 rfl) (ec (ev1 rfl) en) rfl rfl (X8 t) rfl rfl rfl rfl rfl rfl) ?_
  refine zaj rfl (vt (j := 5) rfl qu zr5 rfl (ev1 rfl) (ev1 rfl) yS rfl rfl (fun _ => ym (fun _ => rfl) _) (fun _ => ⟨by omega, by omega⟩)) ?_
  refine zaa 1 rfl ?_
  refine zab ?_
  refine qb ?_
  refine qY [0, 1, 2, 3, 5] (rs1 rfl (qJ rfl)) rfl rfl ?_ ⟨rfl, rfl, rfl, rfl, vA (by unfold wJ; rw [if_neg c2, qaD]) (by unfold wJ; rw [if_neg c2, ← Hu]), trivial⟩
  rfl
theorem AJ (a b : Int) (old : List TL) (hl : old.length ≤ 100)  : DFun Tryz.prog 109 [.slf 256 old.length (old.flatMap tc), .arr 0, .fn (.func 110) [] [.loc 1 0]] [.arr 5 1 (([a, b] : List Int)).length ((([a, b] : List Int)).flatMap uc8), .mix 144 [.fn (.func 112) [] [.loc 2 0]], .mix 146 [.loc 3 0], .mix 24 [.val (.int .i64 a), .val (.int .i64 b), .slf 256 old.length (old.flatMap tc)]] (.arr 4) [.gone, .mix 144 [.fn (.func 112) [] [.loc 2 0]], .mix 146 [.loc 3 0], .mix 24 [.val (.int .i64 a), .val (.int .i64 b), .slf 256 old.length (old.flatMap tc)], .arr 5 1 (([a, b] ++ qR q9 [] old)).length ((([a, b] ++ qR q9 [] old)).flatMap uc8)] := by
 refine zap (N := 23) 4 (by kernel_rfl) Tryz.func109 rfl rfl rfl (by simp only [fr0, qau, qaw]; exact rfl) rfl fun s0 hs0 => ?_
 refine kG (t := 0) rfl fun hl0 hL0 => ?_
 refine J3 (i := 0) rfl fun hl1 hL1 => ?_
 refine zah ?_
 refine zaa 1 rfl ?_
 refine zab ?_
 refine zae ?_
 refine zae ?_
 refine Ak 1 rfl rfl rfl (by simp only [qaE, qaH, zad, zaf]; exact rfl) ?_
 refine zac ?_
 refine zaa 1 rfl ?_
 refine za rfl (qt rfl w4 (ev1 rfl)) ?_
 refine zaa 1 rfl ?_
 refine zab ?_
 refine zas ?_
 refine qI ⟨hs0, rfl⟩ (α := Nat) (fun k => [(11, .val (.int .i64 (k : Int)))]) [(1, _), (2, _), (9, _), (10, _)] (fun k => [(4, .arr 5 1 (([a, b] ++ qR q9 [] (old.take (k)))).length ((([a, b] ++ qR q9 [] (old.take (k)))).flatMap uc8))]) [_, _, _, _, .hole] (fun k => k ≤ old.length) (fun k => old.length - k) 0 [0, 1, 2, 3, 4] (qa5 _) rfl ⟨rfl, rfl, rfl, rfl, trivial⟩ ⟨rfl, trivial⟩ ⟨rfl, rfl, rfl, rfl, by rw [List.take_zero, w7]; rfl, trivial⟩ ?_
 intro k hx
 simp only [upd, zad, zaf, qaE, qaH]
 have hk0 := hx
 have hbl := w6 q9 (old.take k) []
 rw [qaT] at hbl
 refine zah ?_
 refine za rfl (qA rfl (ev1 rfl) (ev1 rfl)) ?_
 refine zab ?_
 refine zae ?_
 refine qe rfl (fun c1 => ?_) (fun c1 => ?_)
 ·try simp only [decide_eq_true_eq, decide_eq_false_iff_not, beq_iff_eq, bne_iff_ne, beq_eq_false_iff_ne, bne_eq_false_iff_eq, qaz, qaA, qav, qaB, qax, ne_eq, Decidable.not_not, qaQ, qaR] at c1
  refine zao ?_
  refine zae ?_
  refine zas ?_
  refine zae ?_
  have hk : k < old.length := by omega
  refine zam 1 ?_
  refine zac ?_
  refine zaa 1 rfl ?_
  refine za rfl (qP (j := k) rfl w4 (ev1 rfl) (ev1 rfl) qy (by decide) (by omega) (by omega)) ?_
  refine za rfl (xI rfl jg (ev1 rfl) (qy _)) ?_
  refine zaj rfl (zan 5 rfl yN rfl) ?_
  refine zaa 1 rfl ?_
  refine zar rfl (qQ rfl jg (ev1 rfl) (ev1 rfl) rfl (qy _) (yj _) ((qy _).trans (qy _).symm)) ?_
  refine zab ?_
  refine zam 1 ?_
  refine zac ?_
  refine zaa 3 rfl ?_
  refine za rfl (kv rfl jg (ev1 rfl) rfl (qy _)) ?_
  refine zaj rfl (zai [4, 1, 2, 3] [] [6] rfl (ev1 rfl) (ec (ev1 rfl) (ec (ev1 rfl) (ec (ev1 rfl) en))) rfl rfl (Zf a b old k (by omega) (by omega) ([a, b] ++ qR q9 [] (old.take (k))) (by simp only [qaD, qaU, qbd]; omega) _) rfl rfl rfl rfl rfl rfl) ?_
  refine zaa 1 rfl ?_
  refine zab ?_
  refine zac ?_
  refine za rfl (qh rfl (ev1 rfl) (ev1 rfl) (fun _ => qaC _ (by omega))) ?_
  refine zaa 1 rfl ?_
  refine zab ?_
  refine ⟨k + 1, [0, 1, 2, 3, 6], by omega, by simp only []; omega, rfl, ⟨rfl, rfl, rfl, rfl, rfl, trivial⟩, ⟨rfl, rfl, rfl, rfl, vA (by rw [xw _ hk]; rfl) (by rw [xw _ hk]; rfl), trivial⟩⟩
 ·try simp only [decide_eq_true_eq, decide_eq_false_iff_not, beq_iff_eq, bne_iff_ne, beq_eq_false_iff_ne, bne_eq_false_iff_eq, qaz, qaA, qav, qaB, qax, ne_eq, Decidable.not_not, qaQ, qaR] at c1
  refine qr ?_
  refine zah ?_
  refine zaa 2 rfl ?_
  refine zab ?_
  refine qb ?_
  have hke : old.take k = old := qaX (by omega)
  refine qY [0, 1, 2, 3, 4] (rs1 rfl (qJ rfl)) rfl rfl ?_ ⟨rfl, rfl, rfl, rfl, vA (by rw [hke]) (by rw [hke]), trivial⟩
  rfl
end Go.Proofs.YtofklkbfkoliiaaGreat
namespace Go.Proofs.YtofklkbfkoliiaaGreat
set_option linter.unusedVariables false
set_option linter.unusedSimpArgs false
open Go.RowKit
attribute [local irreducible] kz kZ yd gy qR
theorem AK (a b : Int) (old : List TL) (hm : gN a b = true) (hl : old.length ≤ 100) : DFun Tryz.prog 87 [.agg [.val (.int .i64 a), .val (.int .i64 b), .slf 256 old.length (old.flatMap tc)], .fn (.func 112) [] [.loc 0 0]] [.mix 146 [.loc 1 0], .mix 24 [.val (.int .i64 a), .val (.int .i64 b), .slf 256 old.length (old.flatMap tc)]] (.arr 2) [.mix 146 [.loc 1 0], .mix 24 [.val (.int .i64 a), .val (.int .i64 b), .slf 256 old.length (old.flatMap tc)], .arr 5 1 ((a :: b :: qR q9 [] old)).length (((a :: b :: qR q9 [] old)).flatMap uc8)] := by
 have hb := Jj hm
 refine zap (N := 16) 2 (by kernel_rfl) Tryz.func87 rfl rfl rfl (by simp only [fr0, qau, qaw]; exact rfl) rfl fun s0 hs0 => ?_
 refine zae ?_
 refine zam 2 ?_
 refine zac ?_
 refine zaj rfl (qG 2 rfl (ev1 rfl) rfl) ?_
 refine zaj rfl (ga 3 rfl (ev1 rfl) (fun s v h => by cases h <;> rfl) rfl) ?_
 refine zaa 1 rfl ?_
 refine zab ?_
 refine zae ?_
 refine zam 2 ?_
 refine zac ?_
 refine za rfl (qa rfl yh (ev1 rfl)) ?_
 refine za rfl (zaq rfl xz (ev1 rfl) rfl rfl) ?_
 refine za rfl (qa rfl y4 (ev1 rfl)) ?_
 refine za rfl (zaq rfl tb3 (ev1 rfl) rfl rfl) ?_
 refine za rfl (jZ ty3 kn5 rfl (ev1 rfl) (fun _ => IntWalk.u8_in _ (by omega))) ?_
 refine za rfl (qa rfl y5 (ev1 rfl)) ?_
 refine za rfl (zaq rfl tb3 (ev1 rfl) rfl rfl) ?_
 refine za rfl (jZ ty3 kn5 rfl (ev1 rfl) (fun _ => IntWalk.u8_in _ (by omega))) ?_
 refine zaj rfl (zh (ps := [(0, .tmp 9), (1, .tmp 12)]) 4 rfl qu zr5 rfl (vc (ev1 rfl) (vc (ev1 rfl) vn)) rfl (by decide) (by decide) rfl) ?_
 refine za rfl (qV rfl en (ec (ev1 rfl) en)) ?_
 refine zaj rfl (zai [4, 3, 0, 1] [] [5] rfl (ev1 rfl) (ec (ev1 rfl) (ec (ev1 rfl) (ec (ev1 rfl) en))) rfl rfl (AJ a b old hl) rfl rfl rfl rfl rfl rfl) ?_
 refine zaa 1 rfl ?_
 refine zab ?_
 refine qb ?_
 refine qY [0, 1, 5] (rs1 rfl (qJ rfl)) rfl rfl ?_ ⟨rfl, rfl, rfl, trivial⟩
 rfl
theorem cnv_y (a b : Int) (old : List TL) (hr : jd a b old = true) (hl : old.length ≤ 100) : DFun Tryz.prog 51 [.agg [.val (.int .i64 a), .val (.int .i64 b), .slf 256 old.length (old.flatMap tc)]] [] (.tup [.arr 0, .val (.int .i64 0)]) [.arr 5 1 ((kD a b old)).length (((kD a b old)).flatMap uc8)] := by
 have hm := KK hr
 refine zap (N := 13) 0 (by kernel_rfl) Tryz.func51 rfl rfl rfl (by simp only [fr0, qau, qaw]; exact rfl) rfl fun s0 hs0 => ?_
 refine zae ?_
 refine zam 1 ?_
 refine zac ?_
 refine zaj rfl (qG 0 rfl (ev1 rfl) rfl) ?_
 refine zaa 2 rfl ?_
 refine zab ?_
 refine zae ?_
 refine zah ?_
 refine za rfl (qo rfl vT (ev1 rfl) rfl rfl) ?_
 refine za rfl (zai [] [] [] rfl (ev1 rfl) (ec (ev1 rfl) en) rfl rfl (Gq a b old) rfl rfl rfl rfl rfl rfl) ?_
 refine zaa 1 rfl ?_
 refine zab ?_
 refine zah ?_
 refine zaa 1 rfl ?_
 refine za rfl (ka rfl (ev1 rfl) (ev1 rfl)) ?_
 refine zab ?_
 refine qc rfl (by rw [hr]; rfl) ?_
 refine zao ?_
 refine zae ?_
 refine zam 2 ?_
 refine Vb [0] 1 [0] [.mix 24 [.val (.int .i64 a), .val (.int .i64 b), .slf 256 old.length (old.flatMap tc)], .mix 146 [.loc 0 0], .hole] [([0], []), ([0, 1], [0, 1]), ([1, 0, 2], [1, 0, 2]), ([], []), ([], [])] rfl qU (by kernel_rfl) ?_
 refine H7 rfl rfl rfl rfl (qo rfl vT (ev1 rfl) rfl rfl) (qo rfl vT (ev1 rfl) rfl rfl) (qo rfl vT (ev1 rfl) rfl rfl) ?_
 refine H8 rfl rfl rfl (zai [0] [] [1] rfl (ev1 rfl) (ec (ev1 rfl) en) rfl rfl (Zd a b old) rfl rfl rfl rfl rfl rfl) rfl (by simp only [upd, zad, zaf]; exact rfl) (by simp only [List.mem_cons, List.not_mem_nil, or_false]; rintro x rfl; rfl) ?_
 refine H6 rfl rfl rfl (zai [1, 0] [] [2] rfl (ev1 rfl) (ec (ev1 rfl) (ec (ev1 rfl) en)) rfl rfl (AK a b old hm hl) rfl rfl rfl rfl rfl rfl) rfl (by simp only [upd, zad, zaf]; exact rfl) ?_
 refine WB rfl rfl rfl (zal (.inr rfl) (ev1 rfl)) ?_
 refine WB rfl rfl rfl (zal (.inr rfl) (ev1 rfl)) ?_
 refine WC ?_
 refine qb ?_
 refine qY [2] (rs2 rfl (qJ rfl) (qJ rfl)) rfl rfl ?_ ⟨rfl, trivial⟩
 rfl
end Go.Proofs.YtofklkbfkoliiaaGreat
namespace Go.Proofs.YtofklkbfkoliiaaGreat
set_option linter.unusedVariables false
set_option linter.unusedSimpArgs false
open Go.RowKit
section
variable {P : Program} {pc : Bool} {o : Oper} {F : Fr} {M : List Blk}
end
section
variable {P : Program} {s0 : St} {n : Cx}
theorem Zg {co : Code} {F : Fr} {M M' : List Blk} {K : Cont} {k k' : Blk} (i : Nat) (h : k = k') (hi : M[i]? = some k) (hM : M.set i k' = M') (hw : dwp P s0 n co F M' K) : dwp P s0 n co F M K := by
 subst h hM
 obtain ⟨hl, he⟩ := qas.1 hi
 rw [← he, List.set_getElem_self] at hw
 exact hw
end
end Go.Proofs.YtofklkbfkoliiaaGreat
namespace Go.Proofs.YtofklkbfkoliiaaGreat
set_option linter.unusedVariables false
set_option linter.unusedSimpArgs false
open Go.RowKit
attribute [local irreducible] k8 rdP rdN yc gc kz kZ yd gy qR kD
theorem cnv_f (a b : Int) (old : List TL) (hr : jd a b old = true) (hl : old.length ≤ 100) : DFun Tryz.prog 51 [.agg [.val (.int .i64 a), .val (.int .i64 b), .slf 256 old.length (old.flatMap tc)]] [] (.tup [.slf 1 ((kD a b old)).length (((kD a b old)).flatMap uc8), .val (.int .i64 0)]) [] := y3 (cnv_y a b old hr hl) rfl
theorem Hv (B : List Int) (hB : B.length ≤ 4000000000000000000) (hi : isB B) (n : Nat) (h2 : 0 + 2 ≤ B.length) (hm : gN (bAt B 0) (bAt B 1) = true) (hn : bAt B 0 * bAt B 1 = (n : Int)) (ts : List TL) (q : Nat) (h0 : gc q9 B n [] 2 = some (ts, q)) : DFun Tryz.prog 59 [.slf 1 (B).length ((B).flatMap uc8)] [] (.tup [.agg [.val (.int .i64 (bAt B 0)), .val (.int .i64 (bAt B 1)), .slf 256 ts.length (ts.flatMap tc)], .val (.int .i64 (q : Nat)), .val (.int .i64 0)]) [] := y3 (rdc_y B hB hi n h2 hm hn ts q h0) rfl
theorem AL (l r : List Int) : DFun Tryz.prog 15 [.slf 1 l.length (l.flatMap uc8), .slf 1 r.length (r.flatMap uc8)] [] (.val (.bool (decide (l = r)))) [] := by
 refine zap (N := 26) 0 (by kernel_rfl) Tryz.func15 rfl rfl rfl (by simp only [fr0, qau, qaw]; exact rfl) rfl fun s0 hs0 => ?_
 refine kG (t := 0) rfl fun hl0 hL0 => ?_
 refine kG (t := 1) rfl fun hl1 hL1 => ?_
 refine zah ?_
 refine zaa 1 rfl ?_
 refine zab ?_
 refine zae ?_
 refine zah ?_
 refine zaa 1 rfl ?_
 refine za rfl (qt rfl qu (ev1 rfl)) ?_
 refine zaa 1 rfl ?_
 refine za rfl (qt rfl qu (ev1 rfl)) ?_
 refine za rfl (ka rfl (ev1 rfl) (ev1 rfl)) ?_
 refine zab ?_
 refine qe rfl (fun c1 => ?_) (fun c1 => ?_)
 ·try simp only [decide_eq_true_eq, decide_eq_false_iff_not, beq_iff_eq, bne_iff_ne, beq_eq_false_iff_ne, bne_eq_false_iff_eq, qaz, qaA, qav, qaB, qax, ne_eq, Decidable.not_not, qaQ, qaR] at c1
  refine zah ?_
  refine zaa 1 rfl ?_
  refine zab ?_
  refine qb ?_
  refine qx (rs1 rfl (qJ rfl)) rfl ?_
  have hne : l ≠ r := fun e => by subst e; exact c1 rfl
  rw [decide_eq_false hne]
 ·try simp only [decide_eq_true_eq, decide_eq_false_iff_not, beq_iff_eq, bne_iff_ne, beq_eq_false_iff_ne, bne_eq_false_iff_eq, qaz, qaA, qav, qaB, qax, ne_eq, Decidable.not_not, qaQ, qaR] at c1
  have hlen : l.length = r.length := by omega
  refine zao ?_
  refine zae ?_
  refine zah ?_
  refine zaa 1 rfl ?_
  refine za rfl (qt rfl qu (ev1 rfl)) ?_
  refine zaa 1 rfl ?_
  refine zab ?_
  refine zas ?_
  refine qI ⟨hs0, rfl⟩ (α := Nat) (fun k => [(13, .val (.int .i64 (k : Int)))]) [(0, _), (1, _), (12, _)] (fun k => []) [] (fun k => k ≤ l.length ∧ l.take k = r.take k) (fun k => l.length - k) 0 [] (by simp) rfl ⟨rfl, rfl, rfl, trivial⟩ ⟨rfl, trivial⟩ trivial ?_
  intro k hx
  simp only [upd, zad, zaf, qaE, qaH]
  obtain ⟨hk, he⟩ := hx
  refine zah ?_
  refine za rfl (qA rfl (ev1 rfl) (ev1 rfl)) ?_
  refine zab ?_
  refine zae ?_
  refine qe rfl (fun c2 => ?_) (fun c2 => ?_)
  ·try simp only [decide_eq_true_eq, decide_eq_false_iff_not, beq_iff_eq, bne_iff_ne, beq_eq_false_iff_ne, bne_eq_false_iff_eq, qaz, qaA, qav, qaB, qax, ne_eq, Decidable.not_not, qaQ, qaR] at c2
   refine zao ?_
   refine zae ?_
   refine zas ?_
   refine zah ?_
   refine zaa 2 rfl ?_
   refine zab ?_
   refine zae ?_
   refine qg [([], []), ([], []), ([], []), ([], []), ([], []), ([], []), ([], []), ([], []), ([], [])] qU (by kernel_rfl) ?_
   refine zag rfl rfl (zal (.inl rfl) (ev1 rfl)) ?_
   refine zag rfl rfl (zal (.inl rfl) (ev1 rfl)) ?_
   refine zag rfl rfl (qP (j := k) rfl qu (ev1 rfl) (ev1 rfl) (fun _ => rfl) (by decide) (by omega) (by omega)) ?_
   refine zag rfl rfl (qS rfl tb5 (ev1 rfl) rfl) ?_
   refine zag rfl rfl (zal (.inl rfl) (ev1 rfl)) ?_
   refine zag rfl rfl (zal (.inl rfl) (ev1 rfl)) ?_
   refine zag rfl rfl (qP (j := k) rfl qu (ev1 rfl) (ev1 rfl) (fun _ => rfl) (by decide) (by omega) (by omega)) ?_
   refine zag rfl rfl (qS rfl tb5 (ev1 rfl) rfl) ?_
   refine zag rfl rfl (ka rfl (ev1 rfl) (ev1 rfl)) ?_
   refine qp ?_
   refine qe rfl (fun c2 => ?_) (fun c2 => ?_)
   ·have c3 : l[k] ≠ r[k] := by simpa using c2
    refine zah ?_
    refine zaa 1 rfl ?_
    refine zab ?_
    refine qb ?_
    refine qx (rs1 rfl (qJ rfl)) rfl ?_
    have hne : l ≠ r := fun e => by subst e; exact c3 rfl
    rw [decide_eq_false hne]
   ·have c3 : l[k] = r[k] := by simpa using c2
    refine zao ?_
    refine zac ?_
    refine za rfl (qh rfl (ev1 rfl) (ev1 rfl) (fun _ => qaC _ (by omega))) ?_
    refine zaa 1 rfl ?_
    refine zab ?_
    refine ⟨k + 1, [], ⟨by omega, by rw [qa0 (by omega), qa0 (by omega), he, c3]⟩, by simp only []; omega, rfl, ⟨rfl, rfl, rfl, rfl, trivial⟩, trivial⟩
  ·try simp only [decide_eq_true_eq, decide_eq_false_iff_not, beq_iff_eq, bne_iff_ne, beq_eq_false_iff_ne, bne_eq_false_iff_eq, qaz, qaA, qav, qaB, qax, ne_eq, Decidable.not_not, qaQ, qaR] at c2
   refine qr ?_
   refine zah ?_
   refine zaa 1 rfl ?_
   refine zab ?_
   refine qb ?_
   refine qx (rs1 rfl (qJ rfl)) rfl ?_
   have e : l = r := by
    have h := he
    rw [qaX (by omega), qaX (by omega)] at h
    exact h
   rw [decide_eq_true e]
theorem YO (l : List Int) (h : l.length ≤ 2000000) : DFun Tryz.prog 16 [.slf 1 l.length (l.flatMap uc8)] [] (.arr 0) [.arr 5 1 l.length (l.flatMap uc8)] := by
 refine zap (N := 8) 0 (by kernel_rfl) Tryz.func16 rfl rfl rfl (by simp only [fr0, qau, qaw]; exact rfl) rfl fun s0 hs0 => ?_
 refine kG (t := 0) rfl fun hl0 hL0 => ?_
 refine zah ?_
 refine zaa 1 rfl ?_
 refine zab ?_
 refine zae ?_
 refine zah ?_
 refine zaa 1 rfl ?_
 refine Q5 rfl rfl rfl rfl qu (ev1 rfl) fun nb4 hnb4 => ?_
 refine zab ?_
 refine qe rfl (fun c1 => ?_) (fun c1 => ?_)
 ·try simp only [decide_eq_true_eq, decide_eq_false_iff_not, beq_iff_eq, bne_iff_ne, beq_eq_false_iff_ne, bne_eq_false_iff_eq, qaz, qaA, qav, qaB, qax, ne_eq, Decidable.not_not, qaQ, qaR] at c1
  refine zah ?_
  refine zaa 1 rfl ?_
  refine zab ?_
  refine Kl 2 5 1 rfl rfl rfl ?_
  refine qb ?_
  refine qY [0] (rs1 rfl (qJ rfl)) rfl rfl ?_ ⟨?_, trivial⟩
  rfl
  exact (by obtain ⟨h1, h2⟩ := hnb4 c1; simp_all [MFits, vwB])
 ·try simp only [decide_eq_true_eq, decide_eq_false_iff_not, beq_iff_eq, bne_iff_ne, beq_eq_false_iff_ne, bne_eq_false_iff_eq, qaz, qaA, qav, qaB, qax, ne_eq, Decidable.not_not, qaQ, qaR] at c1
  refine zao ?_
  refine zae ?_
  refine zam 2 ?_
  refine zac ?_
  refine zaj rfl (zh (ps := []) 0 rfl qu zr5 rfl vn rfl (by decide) (by decide) rfl) ?_
  refine zaa 1 rfl ?_
  refine zaj rfl (vt (j := 1) rfl qu zr5 rfl (ev1 rfl) (ev1 rfl) yS rfl rfl (fun _ => ym (fun _ => rfl) l) (fun _ => ⟨by omega, by omega⟩)) ?_
  refine zaa 1 rfl ?_
  refine zab ?_
  refine qb ?_
  refine qY [1] (rs1 rfl (qJ rfl)) rfl rfl ?_ ⟨?_, trivial⟩
  rfl
  simp [vwB]
theorem jP (l : List Int) (h : l.length ≤ 2000000) : DFun Tryz.prog 16 [.slf 1 l.length (l.flatMap uc8)] [] (.slf 1 l.length (l.flatMap uc8)) [] := y3 (YO l h) rfl
theorem Jp {α : Type} (l : List α) (n : Nat) : l.take (min l.length n) = l.take n := by
 rcases Nat.le_total l.length n with h | h
 ·rw [Nat.min_eq_left h, List.take_length, qaX h]
 ·rw [Nat.min_eq_right h]
end Go.Proofs.YtofklkbfkoliiaaGreat
namespace Go.Proofs.YtofklkbfkoliiaaGreat
set_option linter.unusedVariables false
set_option linter.unusedSimpArgs false
open Go.RowKit
theorem QI (l : List Int) (h : l.length ≤ 1048576) : DFun Tryz.prog 116 [.slf 1 (l).length ((l).flatMap uc8)] [] (.tup [.loc 0 0, .val (.int .i64 0)]) [.mix 206 [.slf 1 (l).length ((l).flatMap uc8), .val (.int .i64 0)]] := by
 refine zap (N := 12) 0 (by kernel_rfl) Tryz.func116 rfl rfl rfl (by simp only [fr0, qau, qaw]; exact rfl) rfl fun s0 hs0 => ?_
 refine kG (t := 0) rfl fun hl0 hL0 => ?_
 refine zah ?_
 refine zaa 2 rfl ?_
 refine zab ?_
 refine zae ?_
 refine zah ?_
 refine zaa 1 rfl ?_
 refine za rfl (qt rfl qu (ev1 rfl)) ?_
 refine za rfl (kE rfl (ev1 rfl) (ev1 rfl)) ?_
 refine zab ?_
 refine qc rfl (decide_eq_false (by omega)) ?_
 refine zao ?_
 refine zae ?_
 refine zam 1 ?_
 refine zac ?_
 refine zaa 1 rfl ?_
 refine za rfl (zai [] [] [] rfl (ev1 rfl) (ec (ev1 rfl) en) rfl rfl (jP _ (by omega)) rfl rfl rfl rfl rfl rfl) ?_
 refine za rfl (K9 rfl W0 Gn (ev1 rfl) rfl) ?_
 refine za rfl (Y8 rfl (ev1 rfl) fl206 zr206 rfl) ?_
 refine zaj rfl (qG 0 rfl (ev1 rfl) rfl) ?_
 refine zaa 2 rfl ?_
 refine zab ?_
 refine qb ?_
 refine qY [0] (rs2 rfl (qJ rfl) (qJ rfl)) rfl rfl ?_ ⟨rfl, trivial⟩
 rfl
theorem YP (l : List Int) (e : Int) : DDef Tryz.prog 140 [.loc 0 0] [.mix 174 [.loc 1 0], .mix 206 [.slf 1 (l).length ((l).flatMap uc8), .val (.int .i64 e)]] none none [.mix 174 [.loc 1 0], .mix 206 [.slf 1 (l).length ((l).flatMap uc8), .val (.int .i64 0)]] := by
 refine Ga (dr := .tup []) (t := 2) (N := 7) 2 1 [[0, 1, 2, 3, 4, 5, 6], [1, 0, 2, 3, 4, 5, 6], [1, 2, 0, 3, 4, 5, 6]] qU (by kernel_rfl) Tryz.func140 rfl rfl rfl (by simp only [fr0, qau, qaw]; exact rfl) rfl rfl (by kernel_rfl) rfl rfl rfl rfl fun s0 hs0 L hL => ?_
 simp only [List.mem_cons, List.not_mem_nil, or_false] at hL
 rcases hL with rfl | rfl | rfl
 ·refine ⟨[0], [2, 3, 4, 5, 6], rfl, ?_⟩
  refine za rfl (zaq rfl gj (ev1 rfl) rfl rfl) ?_
  refine zab ?_
  refine za rfl (zai [] [] [] rfl (ev1 rfl) (ec (ev1 rfl) en) rfl rfl (vh) rfl rfl rfl rfl rfl rfl) ?_
  refine za rfl (qw rfl (ev1 rfl) (fun s v h => by cases h; exact ⟨_, rfl⟩)) ?_
  refine za rfl (qa rfl gm (ev1 rfl)) ?_
  refine za rfl (qa rfl yr (ev1 rfl)) ?_
  refine zar rfl (kL rfl qT (ev1 rfl) (ev1 rfl) (fun s v h => by cases h <;> exact ⟨rfl, rfl⟩) rfl (by first | decide | exact qaF rfl | simp)) ?_
  refine zab ?_
  refine qY [0, 1] (qF rfl) rfl rfl ?_ ⟨rfl, rfl, trivial⟩
  rfl
 ·refine ⟨[], [0, 2, 3, 4, 5, 6], rfl, ?_⟩
  refine zab ?_
  refine za rfl (zaq rfl gj (ev1 rfl) rfl rfl) ?_
  refine za rfl (zai [] [] [] rfl (ev1 rfl) (ec (ev1 rfl) en) rfl rfl (vh) rfl rfl rfl rfl rfl rfl) ?_
  refine za rfl (qw rfl (ev1 rfl) (fun s v h => by cases h; exact ⟨_, rfl⟩)) ?_
  refine za rfl (qa rfl gm (ev1 rfl)) ?_
  refine za rfl (qa rfl yr (ev1 rfl)) ?_
  refine zar rfl (kL rfl qT (ev1 rfl) (ev1 rfl) (fun s v h => by cases h <;> exact ⟨rfl, rfl⟩) rfl (by first | decide | exact qaF rfl | simp)) ?_
  refine zab ?_
  refine qY [0, 1] (qF rfl) rfl rfl ?_ ⟨rfl, rfl, trivial⟩
  rfl
 ·refine ⟨[], [2, 0, 3, 4, 5, 6], rfl, ?_⟩
  refine zab ?_
  refine za rfl (zai [] [] [] rfl (ev1 rfl) (ec (ev1 rfl) en) rfl rfl (vh) rfl rfl rfl rfl rfl rfl) ?_
  refine za rfl (zaq rfl gj (ev1 rfl) rfl rfl) ?_
  refine za rfl (qw rfl (ev1 rfl) (fun s v h => by cases h; exact ⟨_, rfl⟩)) ?_
  refine za rfl (qa rfl gm (ev1 rfl)) ?_
  refine za rfl (qa rfl yr (ev1 rfl)) ?_
  refine zar rfl (kL rfl qT (ev1 rfl) (ev1 rfl) (fun s v h => by cases h <;> exact ⟨rfl, rfl⟩) rfl (by first | decide | exact qaF rfl | simp)) ?_
  refine zab ?_
  refine qY [0, 1] (qF rfl) rfl rfl ?_ ⟨rfl, rfl, trivial⟩
  rfl
theorem Jq (l : List Int) (e n : Int) : DDef Tryz.prog 140 [.loc 0 0] [.mix 174 [.loc 1 0], .mix 206 [.slf 1 (l).length ((l).flatMap uc8), .val (.int .i64 e)]] (some (.ifc 130 (.val (.agg #[.int .i64 n])))) none [.mix 174 [.loc 1 0], .mix 206 [.slf 1 (l).length ((l).flatMap uc8), .val (.int .i64 n)]] := by
 refine Ga (dr := .tup []) (t := 2) (N := 7) 2 1 [[0, 1, 2, 3, 4, 5, 6], [1, 0, 2, 3, 4, 5, 6], [1, 2, 0, 3, 4, 5, 6]] qU (by kernel_rfl) Tryz.func140 rfl rfl rfl (by simp only [fr0, qau, qaw]; exact rfl) rfl rfl (by kernel_rfl) rfl rfl rfl rfl fun s0 hs0 L hL => ?_
 simp only [List.mem_cons, List.not_mem_nil, or_false] at hL
 rcases hL with rfl | rfl | rfl
 ·refine ⟨[0], [2, 3, 4, 5, 6], rfl, ?_⟩
  refine za rfl (zaq rfl gj (ev1 rfl) rfl rfl) ?_
  refine zab ?_
  refine za rfl (zai [] [] [] rfl (ev1 rfl) (ec (ev1 rfl) en) rfl rfl (xR n) rfl rfl rfl rfl rfl rfl) ?_
  refine za rfl (qw rfl (ev1 rfl) (fun s v h => by cases h; exact ⟨_, rfl⟩)) ?_
  refine za rfl (qa rfl gm (ev1 rfl)) ?_
  refine za rfl (qa rfl yr (ev1 rfl)) ?_
  refine zar rfl (kL rfl qT (ev1 rfl) (ev1 rfl) (fun s v h => by cases h <;> exact ⟨rfl, rfl⟩) rfl (by first | decide | exact qaF rfl | simp)) ?_
  refine zab ?_
  refine qY [0, 1] (qF rfl) rfl rfl ?_ ⟨rfl, rfl, trivial⟩
  rfl
 ·refine ⟨[], [0, 2, 3, 4, 5, 6], rfl, ?_⟩
  refine zab ?_
  refine za rfl (zaq rfl gj (ev1 rfl) rfl rfl) ?_
  refine za rfl (zai [] [] [] rfl (ev1 rfl) (ec (ev1 rfl) en) rfl rfl (xR n) rfl rfl rfl rfl rfl rfl) ?_
  refine za rfl (qw rfl (ev1 rfl) (fun s v h => by cases h; exact ⟨_, rfl⟩)) ?_
  refine za rfl (qa rfl gm (ev1 rfl)) ?_
  refine za rfl (qa rfl yr (ev1 rfl)) ?_
  refine zar rfl (kL rfl qT (ev1 rfl) (ev1 rfl) (fun s v h => by cases h <;> exact ⟨rfl, rfl⟩) rfl (by first | decide | exact qaF rfl | simp)) ?_
  refine zab ?_
  refine qY [0, 1] (qF rfl) rfl rfl ?_ ⟨rfl, rfl, trivial⟩
  rfl
 ·refine ⟨[], [2, 0, 3, 4, 5, 6], rfl, ?_⟩
  refine zab ?_
  refine za rfl (zai [] [] [] rfl (ev1 rfl) (ec (ev1 rfl) en) rfl rfl (xR n) rfl rfl rfl rfl rfl rfl) ?_
  refine za rfl (zaq rfl gj (ev1 rfl) rfl rfl) ?_
  refine za rfl (qw rfl (ev1 rfl) (fun s v h => by cases h; exact ⟨_, rfl⟩)) ?_
  refine za rfl (qa rfl gm (ev1 rfl)) ?_
  refine za rfl (qa rfl yr (ev1 rfl)) ?_
  refine zar rfl (kL rfl qT (ev1 rfl) (ev1 rfl) (fun s v h => by cases h <;> exact ⟨rfl, rfl⟩) rfl (by first | decide | exact qaF rfl | simp)) ?_
  refine zab ?_
  refine qY [0, 1] (qF rfl) rfl rfl ?_ ⟨rfl, rfl, trivial⟩
  rfl
theorem Zh (L : List Int) (hL : L.length ≤ 2000000) (w : Nat) (hw : 1 ≤ w ∧ w ≤ 8) (h : w ≤ L.length) : DFun Tryz.prog 138 [.loc 0 0, .loc 1 0, .loc 2 0] [.flat 3 [.int .i64 (w : Int)], .mix 174 [.loc 3 0], .flat 25 [.int .u64 0], .mix 206 [.slf 1 (L).length ((L).flatMap uc8), .val (.int .i64 0)]] (.tup []) [.flat 3 [.int .i64 (w : Int)], .mix 174 [.loc 3 0], .flat 25 [.int .u64 (ky w L)], .mix 206 [.slf 1 (L.drop w).length ((L.drop w).flatMap uc8), .val (.int .i64 0)]] := by
 refine zap (N := 11) 4 (by kernel_rfl) Tryz.func138 rfl rfl rfl (by simp only [fr0, qau, qaw]; exact rfl) rfl fun s0 hs0 => ?_
 refine zah ?_
 refine za rfl (qi rfl tb3 (ev1 rfl) rfl rfl) ?_
 refine za rfl (xo (ps := [(0, .tmp 3)]) rfl y6 zr3 rfl (vc (ev1 rfl) vn) rfl (by decide) (by decide)) ?_
 refine za rfl (zai [] [] [] rfl (ev1 rfl) (ec (ev1 rfl) en) rfl rfl (vg [(w : Int)] (by simp [Jk]; omega)) rfl rfl rfl rfl rfl rfl) ?_
 refine zab ?_
 refine qg [([1], []), ([], []), ([], []), ([0], []), ([3], [3]), ([2], [2])] qU (by kernel_rfl) ?_
 refine zag rfl rfl (zaq rfl gj (ev1 rfl) rfl rfl) ?_
 refine zag rfl rfl (qw rfl (ev1 rfl) (fun s v h => by cases h; exact ⟨_, rfl⟩)) ?_
 refine zag rfl rfl (qa rfl gm (ev1 rfl)) ?_
 refine zag rfl rfl (qi rfl tb3 (ev1 rfl) rfl rfl) ?_
 refine gf rfl rfl (zai [3] [] [] rfl (ev1 rfl) (ec (ev1 rfl) (ec (ev1 rfl) en)) rfl rfl (KD _ L (by omega) 0 w h) rfl rfl rfl rfl rfl rfl) rfl (by simp only [upd, zad, zaf]; exact rfl) ?_
 refine gt rfl rfl (qH rfl ku (ev1 rfl) (ev1 rfl) rfl) rfl (by simp only [upd, zad, zaf]; exact rfl) ?_
 refine qp ?_
 refine qY [0, 1, 2, 3] (qF rfl) rfl rfl ?_ ⟨rfl, rfl, rfl, rfl, trivial⟩
 rfl
theorem Uv (L : List Int) (w : Nat) (hw : 1 ≤ w ∧ w ≤ 8) (h : L.length < w) : DPan Tryz.prog 138 [.loc 0 0, .loc 1 0, .loc 2 0] [.flat 3 [.int .i64 (w : Int)], .mix 174 [.loc 3 0], .flat 25 [.int .u64 0], .mix 206 [.slf 1 (L).length ((L).flatMap uc8), .val (.int .i64 0)]] (.ifc 130 (.val (.agg #[.int .i64 110]))) [.flat 3 [.int .i64 (w : Int)], .mix 174 [.loc 3 0], .flat 25 [.int .u64 0], .mix 206 [.slf 1 (L).length ((L).flatMap uc8), .val (.int .i64 0)]] := by
 refine zap (N := 11) 4 (by kernel_rfl) Tryz.func138 rfl rfl rfl (by simp only [fr0, qau, qaw]; exact rfl) rfl fun s0 hs0 => ?_
 refine zah ?_
 refine za rfl (qi rfl tb3 (ev1 rfl) rfl rfl) ?_
 refine za rfl (xo (ps := [(0, .tmp 3)]) rfl y6 zr3 rfl (vc (ev1 rfl) vn) rfl (by decide) (by decide)) ?_
 refine za rfl (zai [] [] [] rfl (ev1 rfl) (ec (ev1 rfl) en) rfl rfl (vg [(w : Int)] (by simp [Jk]; omega)) rfl rfl rfl rfl rfl rfl) ?_
 refine zab ?_
 refine yz 4 [([1], []), ([], []), ([], []), ([0], [])] qU (by kernel_rfl) rfl rfl ?_
 refine zag rfl rfl (zaq rfl gj (ev1 rfl) rfl rfl) ?_
 refine zag rfl rfl (qw rfl (ev1 rfl) (fun s v h => by cases h; exact ⟨_, rfl⟩)) ?_
 refine zag rfl rfl (qa rfl gm (ev1 rfl)) ?_
 refine zag rfl rfl (qi rfl tb3 (ev1 rfl) rfl rfl) ?_
 refine qp ⟨_, _, _, rfl, qE [3] [] [] rfl (ev1 rfl) (ec (ev1 rfl) (ec (ev1 rfl) en)) rfl rfl (zB _ L 0 w h) rfl rfl rfl rfl rfl rfl, ?_⟩
 refine K3 [0, 1, 2, 3] rfl rfl ?_ ⟨rfl, rfl, rfl, rfl, trivial⟩
 rfl
theorem Uw (L : List Int) (hL : L.length ≤ 2000000) (w : Nat) (hw : 1 ≤ w ∧ w ≤ 8) (h : w ≤ L.length) : DFun Tryz.prog 137 [.loc 0 0, .fn (.func 138) [] [.loc 1 0, .loc 2 0, .loc 3 0]] [.mix 206 [.slf 1 (L).length ((L).flatMap uc8), .val (.int .i64 0)], .flat 3 [.int .i64 (w : Int)], .mix 174 [.loc 0 0], .flat 25 [.int .u64 0]] (.tup []) [.mix 206 [.slf 1 (L.drop w).length ((L.drop w).flatMap uc8), .val (.int .i64 0)], .flat 3 [.int .i64 (w : Int)], .mix 174 [.loc 0 0], .flat 25 [.int .u64 (ky w L)]] := by
 refine qj (N := 17) 4 (by kernel_rfl) Tryz.func137 rfl rfl rfl (by simp only [fr0, qau, qaw]; exact rfl) rfl fun s0 hs0 => ?_
 refine qD rfl hs0 ?_
 refine zam 1 ?_
 refine zac ?_
 refine zaj rfl (ga 4 rfl (ev1 rfl) (fun s v h => by cases h <;> rfl) rfl) ?_
 refine zab ?_
 refine qD rfl hs0 ?_
 refine zah ?_
 refine za rfl (zaq rfl gj (ev1 rfl) rfl rfl) ?_
 refine za rfl (Y9 rfl QA (ev1 rfl)) ?_
 refine zaa 1 rfl ?_
 refine zak (qm rfl rfl rfl) rfl rfl rfl (zaq rfl gj (ev1 rfl) rfl rfl) ?_
 refine zak (qm rfl rfl rfl) rfl rfl rfl (qw rfl (ev2 rfl) (fun s v h => by cases h; exact ⟨_, rfl⟩)) ?_
 refine zak (qm rfl rfl rfl) rfl rfl rfl (qa rfl gm (ev2 rfl)) ?_
 refine zak (qm rfl rfl rfl) rfl rfl rfl (qa rfl yr (ev2 rfl)) ?_
 refine zak (qm rfl rfl rfl) rfl rfl rfl (zaq rfl qT (ev2 rfl) rfl rfl) ?_
 refine zak (qm rfl rfl rfl) rfl rfl rfl (ka rfl (ev2 rfl) (ev1 rfl)) ?_
 refine za rfl (kA rfl (ev1 rfl) (ev3 rfl id)) ?_
 refine zab ?_
 refine qc rfl (rfl) ?_
 refine zao ?_
 refine qn (l0 := [_]) rfl rfl rfl rfl rfl hs0 ?_
 refine za rfl (qV rfl en (ec (ev1 rfl) en)) ?_
 refine zab ⟨_, _, _, 5, ev1 rfl, qaM hs0 (by decide), rfl, ?_⟩
 have hs1 : s0.M.length ≤ 5 := qaM hs0 (by decide)
 refine qC rfl hs0 ?_
 refine zac ?_
 refine zaa 1 rfl ?_
 refine zaj rfl (zai [1, 2, 3, 0] [] [] rfl (ev1 rfl) en rfl rfl (Zh L hL w hw h) rfl rfl rfl rfl rfl rfl) ?_
 refine zab ?_
 refine jI (kF [4, 0] [] rfl rfl (YP _ _) rfl rfl rfl rfl rfl) ?_
 refine qY [0, 1, 2, 3] (qF rfl) rfl rfl ?_ ⟨rfl, rfl, rfl, rfl, trivial⟩
 rfl
theorem Ux (L : List Int) (w : Nat) (hw : 1 ≤ w ∧ w ≤ 8) (h : L.length < w) : DFun Tryz.prog 137 [.loc 0 0, .fn (.func 138) [] [.loc 1 0, .loc 2 0, .loc 3 0]] [.mix 206 [.slf 1 (L).length ((L).flatMap uc8), .val (.int .i64 0)], .flat 3 [.int .i64 (w : Int)], .mix 174 [.loc 0 0], .flat 25 [.int .u64 0]] (.tup []) [.mix 206 [.slf 1 (L).length ((L).flatMap uc8), .val (.int .i64 110)], .flat 3 [.int .i64 (w : Int)], .mix 174 [.loc 0 0], .flat 25 [.int .u64 0]] := by
 refine qj (N := 17) 4 (by kernel_rfl) Tryz.func137 rfl rfl rfl (by simp only [fr0, qau, qaw]; exact rfl) rfl fun s0 hs0 => ?_
 refine qD rfl hs0 ?_
 refine zam 1 ?_
 refine zac ?_
 refine zaj rfl (ga 4 rfl (ev1 rfl) (fun s v h => by cases h <;> rfl) rfl) ?_
 refine zab ?_
 refine qD rfl hs0 ?_
 refine zah ?_
 refine za rfl (zaq rfl gj (ev1 rfl) rfl rfl) ?_
 refine za rfl (Y9 rfl QA (ev1 rfl)) ?_
 refine zaa 1 rfl ?_
 refine zak (qm rfl rfl rfl) rfl rfl rfl (zaq rfl gj (ev1 rfl) rfl rfl) ?_
 refine zak (qm rfl rfl rfl) rfl rfl rfl (qw rfl (ev2 rfl) (fun s v h => by cases h; exact ⟨_, rfl⟩)) ?_
 refine zak (qm rfl rfl rfl) rfl rfl rfl (qa rfl gm (ev2 rfl)) ?_
 refine zak (qm rfl rfl rfl) rfl rfl rfl (qa rfl yr (ev2 rfl)) ?_
 refine zak (qm rfl rfl rfl) rfl rfl rfl (zaq rfl qT (ev2 rfl) rfl rfl) ?_
 refine zak (qm rfl rfl rfl) rfl rfl rfl (ka rfl (ev2 rfl) (ev1 rfl)) ?_
 refine za rfl (kA rfl (ev1 rfl) (ev3 rfl id)) ?_
 refine zab ?_
 refine qc rfl (rfl) ?_
 refine zao ?_
 refine qn (l0 := [_]) rfl rfl rfl rfl rfl hs0 ?_
 refine za rfl (qV rfl en (ec (ev1 rfl) en)) ?_
 refine zab ⟨_, _, _, 5, ev1 rfl, qaM hs0 (by decide), rfl, ?_⟩
 have hs1 : s0.M.length ≤ 5 := qaM hs0 (by decide)
 refine qC rfl hs0 ?_
 refine zac ?_
 refine zaa 1 rfl ?_
 refine qZ rfl (qE [1, 2, 3, 0] [] [] rfl (ev1 rfl) en rfl rfl (Uv L w hw h) rfl rfl rfl rfl rfl rfl) rfl ?_
 refine jI (qL [4, 0] [] rfl rfl rfl (Jq _ _ _) rfl rfl rfl rfl rfl) ?_
 refine qY [0, 1, 2, 3] (qF rfl) rfl rfl ?_ ⟨rfl, rfl, rfl, rfl, trivial⟩
 rfl
theorem Zi (L : List Int) (hL : L.length ≤ 2000000) (w : Nat) (hw : 1 ≤ w ∧ w ≤ 8) (h : w ≤ L.length) : DFun Tryz.prog 130 [.loc 0 0, .val (.int .i64 (w : Int))] [.mix 206 [.slf 1 (L).length ((L).flatMap uc8), .val (.int .i64 0)]] (.val (.int .u64 (ky w L))) [.mix 206 [.slf 1 (L.drop w).length ((L.drop w).flatMap uc8), .val (.int .i64 0)]] := by
 refine zap (N := 9) 1 (by kernel_rfl) Tryz.func130 rfl rfl rfl (by simp only [fr0, qau, qaw]; exact rfl) rfl fun s0 hs0 => ?_
 refine zae ?_
 refine zam 3 ?_
 refine zac ?_
 refine zaj rfl (ga 1 rfl (ev1 rfl) (fun s v h => by cases h <;> rfl) rfl) ?_
 refine zaj rfl (gD 2 rfl (ev1 rfl) rfl) ?_
 refine zaj rfl (zan 3 rfl zr25 rfl) ?_
 refine zab ?_
 refine zah ?_
 refine za rfl (zaq rfl gj (ev1 rfl) rfl rfl) ?_
 refine za rfl (qV rfl en (ec (ev1 rfl) (ec (ev1 rfl) (ec (ev1 rfl) en)))) ?_
 refine zaj rfl (zai [0, 2, 1, 3] [] [] rfl (ev1 rfl) (ec (ev1 rfl) (ec (ev1 rfl) en)) rfl rfl (Uw L hL w hw h) rfl rfl rfl rfl rfl rfl) ?_
 refine zab ?_
 refine zah ?_
 refine za rfl (qi rfl ku (ev1 rfl) rfl rfl) ?_
 refine zar rfl (qH rfl ku (ev1 rfl) (ev1 rfl) rfl) ?_
 refine zab ?_
 refine qb ?_
 refine qY [0] (rs1 rfl (js ku rfl rfl rfl)) rfl rfl ?_ ⟨rfl, trivial⟩
 rfl
theorem Uy (L : List Int) (w : Nat) (hw : 1 ≤ w ∧ w ≤ 8) (h : L.length < w) : DFun Tryz.prog 130 [.loc 0 0, .val (.int .i64 (w : Int))] [.mix 206 [.slf 1 (L).length ((L).flatMap uc8), .val (.int .i64 0)]] (.val (.int .u64 0)) [.mix 206 [.slf 1 (L).length ((L).flatMap uc8), .val (.int .i64 110)]] := by
 refine zap (N := 9) 1 (by kernel_rfl) Tryz.func130 rfl rfl rfl (by simp only [fr0, qau, qaw]; exact rfl) rfl fun s0 hs0 => ?_
 refine zae ?_
 refine zam 3 ?_
 refine zac ?_
 refine zaj rfl (ga 1 rfl (ev1 rfl) (fun s v h => by cases h <;> rfl) rfl) ?_
 refine zaj rfl (gD 2 rfl (ev1 rfl) rfl) ?_
 refine zaj rfl (zan 3 rfl zr25 rfl) ?_
 refine zab ?_
 refine zah ?_
 refine za rfl (zaq rfl gj (ev1 rfl) rfl rfl) ?_
 refine za rfl (qV rfl en (ec (ev1 rfl) (ec (ev1 rfl) (ec (ev1 rfl) en)))) ?_
 refine zaj rfl (zai [0, 2, 1, 3] [] [] rfl (ev1 rfl) (ec (ev1 rfl) (ec (ev1 rfl) en)) rfl rfl (Ux L w hw h) rfl rfl rfl rfl rfl rfl) ?_
 refine zab ?_
 refine zah ?_
 refine za rfl (qi rfl ku (ev1 rfl) rfl rfl) ?_
 refine zar rfl (qH rfl ku (ev1 rfl) (ev1 rfl) rfl) ?_
 refine zab ?_
 refine qb ?_
 refine qY [0] (rs1 rfl (js ku rfl rfl rfl)) rfl rfl ?_ ⟨rfl, trivial⟩
 rfl
end Go.Proofs.YtofklkbfkoliiaaGreat
namespace Go.Proofs.YtofklkbfkoliiaaGreat
set_option linter.unusedVariables false
set_option linter.unusedSimpArgs false
def w8 : Nat → Nat → List Int
 | 0, _ => []
 | w + 1, n => ((n / 256 ^ w % 256 : Nat) : Int) :: w8 w n
def jK (l : List Int) (acc : Nat) : Nat := l.foldl (fun a b => a * 256 + b.toNat) acc
theorem uO : ∀ w n, (w8 w n).length = w
 | 0, _ => rfl
 | w + 1, n => by rw [w8, qaU, uO]
theorem zI (w : Nat) : 0 < 256 ^ w := Nat.pow_pos (by decide)
theorem GH : ∀ (w a v : Nat), w8 w (a * 256 ^ w + v) = w8 w v
 | 0, _, _ => rfl
 | w + 1, a, v => by
  have e : a * 256 ^ (w + 1) + v = (a * 256) * 256 ^ w + v := by rw [Nat.pow_succ, Nat.mul_assoc, Nat.mul_comm 256]
  rw [w8, w8, e, GH w (a * 256) v]
  congr 2
  rw [Nat.mul_comm, Nat.mul_add_div (zI w)]
  omega
theorem GI : ∀ (w n acc : Nat), jK (w8 w n) acc = acc * 256 ^ w + n % 256 ^ w
 | 0, n, acc => by simp [w8, jK, Nat.mod_one]
 | w + 1, n, acc => by
  have h := GI w n (acc * 256 + n / 256 ^ w % 256)
  unfold jK at h ⊢
  rw [w8, List.foldl_cons, qbe, h, Nat.pow_succ, Nat.mod_mul, Nat.add_mul, Nat.mul_assoc, Nat.mul_comm 256, Nat.mul_comm (n / 256 ^ w % 256)]
  omega
theorem uP : ∀ (l : List Int) (acc : Nat), jK l acc = acc * 256 ^ l.length + jK l 0
 | [], acc => by simp [jK]
 | x :: l, acc => by
  have h1 := uP l (acc * 256 + x.toNat)
  have h2 := uP l (0 * 256 + x.toNat)
  unfold jK at h1 h2 ⊢
  rw [List.foldl_cons, List.foldl_cons, h1, h2, qaU, Nat.pow_succ, Nat.add_mul, Nat.zero_mul, qau, Nat.mul_assoc, Nat.mul_comm 256]
  omega
theorem Jr : ∀ (l : List Int), isB l → jK l 0 < 256 ^ l.length
 | [], _ => by simp [jK]
 | x :: l, h => by
  have h1 := Jr l fun y hy => h y (qa9 _ hy)
  have hx := h x (qa6 ..)
  have h2 := uP l (0 * 256 + x.toNat)
  unfold jK at h1 h2 ⊢
  rw [List.foldl_cons, h2, qaU, Nat.pow_succ, Nat.zero_mul, qau]
  have : x.toNat * 256 ^ l.length + 256 ^ l.length ≤ 256 ^ l.length * 256 := by
   rw [Nat.mul_comm (256 ^ l.length) 256, ← qbj]
   exact qa8 _ (by omega)
  omega
theorem QJ : ∀ (l : List Int), isB l → w8 l.length (jK l 0) = l
 | [], _ => rfl
 | x :: l, h => by
  have hl : isB l := fun y hy => h y (qa9 _ hy)
  have h1 := QJ l hl
  have hv := Jr l hl
  have hx := h x (qa6 ..)
  have h2 : jK (x :: l) 0 = x.toNat * 256 ^ l.length + jK l 0 := by
   have h2 := uP l (0 * 256 + x.toNat)
   unfold jK at h2 ⊢
   rw [List.foldl_cons, h2, Nat.zero_mul, qau]
  rw [h2, qaU, w8, GH, h1]
  congr 1
  rw [Nat.mul_comm, Nat.mul_add_div (zI _), Nat.div_eq_of_lt hv]
  omega
def kS (w : Nat) (n : Int) : List Int := w8 w n.toNat
def tkN (S : Int) (w : Nat) : Tkr Int := fun b => if b.length < w then .err S else .ok (jK (b.take w) 0 : Int) (b.drop w)
theorem cdN (S : Int) (w : Nat) : Cd S (fun n : Int => 0 ≤ n ∧ n < (256 ^ w : Nat)) (kS w) (tkN S w) where
 fwd n r h := by
  have hl : (kS w n).length = w := uO _ _
  unfold tkN
  rw [if_neg (by rw [qaD]; omega), List.take_append_of_le_length (by omega), qaX (by omega), List.drop_append_of_le_length (by omega), List.drop_of_length_le (by omega)]
  unfold kS
  rw [GI, Nat.zero_mul, qau, Nat.mod_eq_of_lt (by omega), Int.toNat_of_nonneg h.1]
  rfl
 bwd b n r hb h := by
  unfold tkN at h
  by_cases hw : b.length < w
  ·rw [if_pos hw] at h; cases h
  ·rw [if_neg hw] at h
   cases h
   have hb' : isB (b.take w) := fun x hx => hb x (List.mem_of_mem_take hx)
   have hl : (b.take w).length = w := by rw [qaT]; omega
   have h1 := QJ _ hb'
   have h2 := Jr _ hb'
   rw [hl] at h1 h2
   refine ⟨?_, Int.natCast_nonneg _, by exact_mod_cast h2⟩
   unfold kS
   rw [qbe, h1, List.take_append_drop]
 sh n k h hk := by
  have hl : (kS w n).length = w := uO _ _
  unfold tkN
  rw [if_pos (by rw [qaT]; omega)]
end Go.Proofs.YtofklkbfkoliiaaGreat
namespace Go.Proofs.YtofklkbfkoliiaaGreat
set_option linter.unusedVariables false
set_option linter.unusedSimpArgs false
section
variable {α β : Type} {S : Int} {ok : α → Prop} {lay : α → List Int} {tk : Tkr α} {ok2 : α → β → Prop} {lay2 : α → β → List Int} {tk2 : α → Tkr β}
theorem Cd.dep (c : Cd S ok lay tk) (d : ∀ a, ok a → Cd S (ok2 a) (lay2 a) (tk2 a)) : Cd S (fun p : α × β => ok p.1 ∧ ok2 p.1 p.2) (fun p => lay p.1 ++ lay2 p.1 p.2) (fun b => (tk b).bind fun a r => (tk2 a r).bind fun x r => .ok (a, x) r) where
 fwd p r h := by
  rw [qa1, c.fwd _ _ h.1]
  show (tk2 _ _).bind _ = _
  rw [(d _ h.1).fwd _ _ h.2]
  rfl
 bwd b p r hb h := by
  cases h1 : tk b with
  | err e => rw [h1] at h; cases h
  | ok a r1 =>
   rw [h1] at h
   have h : (tk2 a r1).bind (fun x r => Tk.ok (a, x) r) = .ok p r := h
   obtain ⟨e1, k1⟩ := c.bwd b a r1 hb h1
   cases h2 : tk2 a r1 with
   | err e => rw [h2] at h; cases h
   | ok x r2 =>
    rw [h2] at h
    cases h
    obtain ⟨e2, k2⟩ := (d a k1).bwd r1 x r (by rw [e1] at hb; exact (isB_app.1 hb).2) h2
    exact ⟨by rw [e1, e2, qa1], k1, k2⟩
 sh p k h hk := by
  by_cases h1 : k < (lay p.1).length
  ·rw [List.take_append_of_le_length (by omega), c.sh _ _ h.1 h1]
   rfl
  ·rw [qaD] at hk
   rw [List.take_append, qaX (by omega), c.fwd _ _ h.1]
   show (tk2 _ _).bind _ = _
   rw [(d _ h.1).sh _ _ h.2 (by omega)]
   rfl
theorem Cd.iff {ok' : α → Prop} (c : Cd S ok lay tk) (h : ∀ a, ok' a ↔ ok a) : Cd S ok' lay tk where
 fwd a r k := c.fwd a r ((h a).1 k)
 bwd b a r hb e := ⟨(c.bwd b a r hb e).1, (h a).2 (c.bwd b a r hb e).2⟩
 sh a k k1 hk := c.sh a k ((h a).1 k1) hk
end
theorem Uz {i : I3} (h : uH i = true) : (1 ≤ i.t ∧ i.t ≤ 4611686018427387904) ∧ (1 ≤ i.s ∧ i.s ≤ 8) ∧ (1 ≤ i.q ∧ i.q ≤ 4611686018427387904) := by
 unfold uH WW isSt at h
 simpa using h
def idB (i : I3) : List Int := kS 8 i.t ++ (kS 1 i.s ++ kS 8 i.q)
def Hw (S : Int) : Tkr I3 := fun b => ((tkN S 8 b).bind fun t r => ((tkN S 1 r).bind fun s r => (tkN S 8 r).bind fun q r => Tk.ok (s, q) r).bind fun p r => .ok (t, p) r).bind fun a r => .ok ⟨a.1, a.2.1, a.2.2⟩ r
def tkId (S C : Int) : Tkr I3 := fun b => (Hw S b).bind fun a r => if uH a then .ok a r else .err C
theorem VJ (S C : Int) : Cd S (fun i => uH i = true) idB (tkId S C) :=
 ((((cdN S 8).seq ((cdN S 1).seq (cdN S 8))).map (ok2 := fun i : I3 => (0 ≤ i.t ∧ i.t < (256 ^ 8 : Nat)) ∧ (0 ≤ i.s ∧ i.s < (256 ^ 1 : Nat)) ∧ (0 ≤ i.q ∧ i.q < (256 ^ 8 : Nat))) (fun p => (⟨p.1, p.2.1, p.2.2⟩ : I3)) (fun i => (i.t, i.s, i.q)) (fun a h => ⟨rfl, h⟩) (fun x h => ⟨h, rfl⟩)).need C uH).iff fun i => by
  constructor
  ·intro h
   obtain ⟨h1, h2, h3⟩ := Uz h
   have e8 : ((256 ^ 8 : Nat) : Int) = 18446744073709551616 := by decide
   have e1 : ((256 ^ 1 : Nat) : Int) = 256 := by decide
   refine ⟨⟨?_, ?_, ?_⟩, h⟩ <;> (first | rw [e8] | rw [e1]) <;> omega
  ·exact fun h => h.2
def xf (x : Int) : List Int := kS 1 (x + 64)
def tkPl (S : Int) : Tkr Int := fun b => (tkN S 1 b).bind fun a r => .ok (a - 64) r
theorem xB (S : Int) : Cd S (fun x : Int => -64 ≤ x ∧ x < 192) xf (tkPl S) :=
 (cdN S 1).map (fun a => a - 64) (fun x => x + 64) (fun a h => by
  have e1 : ((256 ^ 1 : Nat) : Int) = 256 := by decide
  rw [e1] at h
  exact ⟨by omega, by omega⟩) (fun x h => by
  have e1 : ((256 ^ 1 : Nat) : Int) = 256 := by decide
  rw [e1]
  exact ⟨by omega, by omega⟩)
def okC (c : C4) : Prop := (0 ≤ c.r ∧ c.r < (256 ^ 1 : Nat)) ∧ (0 ≤ c.g ∧ c.g < (256 ^ 1 : Nat)) ∧ (0 ≤ c.b ∧ c.b < (256 ^ 1 : Nat)) ∧ (0 ≤ c.a ∧ c.a < (256 ^ 1 : Nat))
def VK (c : C4) : List Int := kS 1 c.r ++ (kS 1 c.g ++ (kS 1 c.b ++ kS 1 c.a))
def UA (S : Int) : Tkr C4 := fun b => ((tkN S 1 b).bind fun t r => ((tkN S 1 r).bind fun s r => ((tkN S 1 r).bind fun p r => (tkN S 1 r).bind fun q r => Tk.ok (p, q) r).bind fun q r => Tk.ok (s, q) r).bind fun p r => .ok (t, p) r).bind fun a r => .ok ⟨a.1, a.2.1, a.2.2.1, a.2.2.2⟩ r
theorem cdCo (S : Int) : Cd S okC VK (UA S) :=
 ((cdN S 1).seq ((cdN S 1).seq ((cdN S 1).seq (cdN S 1)))).map (ok2 := okC) (fun p : Int × Int × Int × Int => (⟨p.1, p.2.1, p.2.2.1, p.2.2.2⟩ : C4)) (fun c => (c.r, c.g, c.b, c.a)) (fun a h => ⟨rfl, h⟩) (fun x h => ⟨h, rfl⟩)
def tkSi (S C : Int) : Tkr Int := fun b => (tkN S 1 b).bind fun a r => if siD a then .ok a r else .err C
theorem cdSi (S C : Int) : Cd S (fun n => siD n = true) (kS 1) (tkSi S C) :=
 ((cdN S 1).need C siD).iff fun n => by
  have e1 : ((256 ^ 1 : Nat) : Int) = 256 := by decide
  rw [e1]
  constructor
  ·intro h
   have h2 := h
   unfold siD at h2
   simp at h2
   exact ⟨by omega, h⟩
  ·exact fun h => h.2
def stBy (s : (Int × Int) × List C4) : List Int := (kS 1 s.1.1 ++ kS 1 s.1.2) ++ s.2.flatMap VK
def tkSt (S C : Int) : Tkr ((Int × Int) × List C4) := fun b => ((tkSi S C b).bind fun a r => (tkSi S C r).bind fun x r => Tk.ok (a, x) r).bind fun a r => (gO (UA S) (a.1 * a.2).toNat r).bind fun x r => .ok (a, x) r
theorem cdSt (S C : Int) : Cd S (fun s : (Int × Int) × List C4 => (siD s.1.1 = true ∧ siD s.1.2 = true) ∧ s.2.length = (s.1.1 * s.1.2).toNat ∧ ∀ c ∈ s.2, okC c) stBy (tkSt S C) :=
 ((cdSi S C).seq (cdSi S C)).dep (ok2 := fun (a : Int × Int) (l : List C4) => l.length = (a.1 * a.2).toNat ∧ ∀ c ∈ l, okC c) (lay2 := fun _ (l : List C4) => l.flatMap VK) (fun a _ => (cdCo S).rep (a.1 * a.2).toNat)
end Go.Proofs.YtofklkbfkoliiaaGreat
namespace Go.Proofs.YtofklkbfkoliiaaGreat
set_option linter.unusedVariables false
set_option linter.unusedSimpArgs false
def xC (x : Int) : Prop := -64 ≤ x ∧ x < 192
def isSz (x : Int) : Prop := 0 ≤ x ∧ x < (256 ^ 2 : Nat)
def cd12 (S C k : Int) : { tk : Tkr OpM // Cd S (fun o : OpM => o.kd = k ∧ uH o.id = true ∧ xC o.x ∧ xC o.y ∧ xC o.x2 ∧ xC o.y2 ∧ isSz o.sz ∧ okC o.co ∧ o.sw = 0 ∧ o.sh = 0 ∧ o.px = [] ∧ o.tg = zI3) (fun o => idB o.id ++ (xf o.x ++ (xf o.y ++ (xf o.x2 ++ (xf o.y2 ++ (kS 2 o.sz ++ VK o.co)))))) tk } :=
 ⟨_, ((VJ S C).seq ((xB S).seq ((xB S).seq ((xB S).seq ((xB S).seq ((cdN S 2).seq (cdCo S))))))).map (fun p : I3 × Int × Int × Int × Int × Int × C4 => (⟨p.1, k, p.2.1, p.2.2.1, p.2.2.2.1, p.2.2.2.2.1, p.2.2.2.2.2.1, p.2.2.2.2.2.2, 0, 0, [], zI3⟩ : OpM)) (fun o => (o.id, o.x, o.y, o.x2, o.y2, o.sz, o.co))
  (fun a h => ⟨rfl, rfl, h.1, h.2.1, h.2.2.1, h.2.2.2.1, h.2.2.2.2.1, h.2.2.2.2.2.1, h.2.2.2.2.2.2, rfl, rfl, rfl, rfl⟩)
  (fun o h => by
   obtain ⟨id, kd, x, y, x2, y2, sz, co, sw, sh, px, tg⟩ := o
   obtain ⟨h1, h2, h3, h4, h5, h6, h7, h8, h9, h10, h11, h12⟩ := h
   dsimp only at h1 h2 h3 h4 h5 h6 h7 h8 h9 h10 h11 h12
   subst h1 h9 h10 h11 h12
   exact ⟨⟨h2, h3, h4, h5, h6, h7, h8⟩, rfl⟩)⟩
def cd34 (S C k : Int) : { tk : Tkr OpM // Cd S (fun o : OpM => o.kd = k ∧ uH o.id = true ∧ xC o.x ∧ xC o.y ∧ xC o.x2 ∧ xC o.y2 ∧ o.sz = 0 ∧ okC o.co ∧ o.sw = 0 ∧ o.sh = 0 ∧ o.px = [] ∧ o.tg = zI3) (fun o => idB o.id ++ (xf o.x ++ (xf o.y ++ (xf o.x2 ++ (xf o.y2 ++ VK o.co))))) tk } :=
 ⟨_, ((VJ S C).seq ((xB S).seq ((xB S).seq ((xB S).seq ((xB S).seq (cdCo S)))))).map (fun p : I3 × Int × Int × Int × Int × C4 => (⟨p.1, k, p.2.1, p.2.2.1, p.2.2.2.1, p.2.2.2.2.1, 0, p.2.2.2.2.2, 0, 0, [], zI3⟩ : OpM)) (fun o => (o.id, o.x, o.y, o.x2, o.y2, o.co))
  (fun a h => ⟨rfl, rfl, h.1, h.2.1, h.2.2.1, h.2.2.2.1, h.2.2.2.2.1, rfl, h.2.2.2.2.2, rfl, rfl, rfl, rfl⟩)
  (fun o h => by
   obtain ⟨id, kd, x, y, x2, y2, sz, co, sw, sh, px, tg⟩ := o
   obtain ⟨h1, h2, h3, h4, h5, h6, h7, h8, h9, h10, h11, h12⟩ := h
   dsimp only at h1 h2 h3 h4 h5 h6 h7 h8 h9 h10 h11 h12
   subst h1 h7 h9 h10 h11 h12
   exact ⟨⟨h2, h3, h4, h5, h6, h8⟩, rfl⟩)⟩
def cd5 (S C k : Int) : { tk : Tkr OpM // Cd S (fun o : OpM => o.kd = k ∧ uH o.id = true ∧ xC o.x ∧ xC o.y ∧ o.x2 = 0 ∧ o.y2 = 0 ∧ isSz o.sz ∧ okC o.co ∧ o.sw = 0 ∧ o.sh = 0 ∧ o.px = [] ∧ o.tg = zI3) (fun o => idB o.id ++ (xf o.x ++ (xf o.y ++ (kS 2 o.sz ++ VK o.co)))) tk } :=
 ⟨_, ((VJ S C).seq ((xB S).seq ((xB S).seq ((cdN S 2).seq (cdCo S))))).map (fun p : I3 × Int × Int × Int × C4 => (⟨p.1, k, p.2.1, p.2.2.1, 0, 0, p.2.2.2.1, p.2.2.2.2, 0, 0, [], zI3⟩ : OpM)) (fun o => (o.id, o.x, o.y, o.sz, o.co))
  (fun a h => ⟨rfl, rfl, h.1, h.2.1, h.2.2.1, rfl, rfl, h.2.2.2.1, h.2.2.2.2, rfl, rfl, rfl, rfl⟩)
  (fun o h => by
   obtain ⟨id, kd, x, y, x2, y2, sz, co, sw, sh, px, tg⟩ := o
   obtain ⟨h1, h2, h3, h4, h5, h6, h7, h8, h9, h10, h11, h12⟩ := h
   dsimp only at h1 h2 h3 h4 h5 h6 h7 h8 h9 h10 h11 h12
   subst h1 h5 h6 h9 h10 h11 h12
   exact ⟨⟨h2, h3, h4, h7, h8⟩, rfl⟩)⟩
def cd6 (S C k : Int) : { tk : Tkr OpM // Cd S (fun o : OpM => o.kd = k ∧ uH o.id = true ∧ xC o.x ∧ xC o.y ∧ o.x2 = 0 ∧ o.y2 = 0 ∧ o.sz = 0 ∧ o.co = zC4 ∧ ((siD o.sw = true ∧ siD o.sh = true) ∧ o.px.length = (o.sw * o.sh).toNat ∧ ∀ c ∈ o.px, okC c) ∧ o.tg = zI3) (fun o => idB o.id ++ (xf o.x ++ (xf o.y ++ stBy ((o.sw, o.sh), o.px)))) tk } :=
 ⟨_, ((VJ S C).seq ((xB S).seq ((xB S).seq (cdSt S C)))).map (fun p : I3 × Int × Int × (Int × Int) × List C4 => (⟨p.1, k, p.2.1, p.2.2.1, 0, 0, 0, zC4, p.2.2.2.1.1, p.2.2.2.1.2, p.2.2.2.2, zI3⟩ : OpM)) (fun o => (o.id, o.x, o.y, (o.sw, o.sh), o.px))
  (fun a h => ⟨rfl, rfl, h.1, h.2.1, h.2.2.1, rfl, rfl, rfl, rfl, h.2.2.2, rfl⟩)
  (fun o h => by
   obtain ⟨id, kd, x, y, x2, y2, sz, co, sw, sh, px, tg⟩ := o
   obtain ⟨h1, h2, h3, h4, h5, h6, h7, h8, h9, h10⟩ := h
   dsimp only at h1 h2 h3 h4 h5 h6 h7 h8 h9 h10
   subst h1 h5 h6 h7 h8 h10
   exact ⟨⟨h2, h3, h4, h9⟩, rfl⟩)⟩
def cd78 (S C k : Int) : { tk : Tkr OpM // Cd S (fun o : OpM => o.kd = k ∧ uH o.id = true ∧ o.x = 0 ∧ o.y = 0 ∧ o.x2 = 0 ∧ o.y2 = 0 ∧ o.sz = 0 ∧ o.co = zC4 ∧ o.sw = 0 ∧ o.sh = 0 ∧ o.px = [] ∧ uH o.tg = true) (fun o => idB o.id ++ idB o.tg) tk } :=
 ⟨_, ((VJ S C).seq (VJ S C)).map (fun p : I3 × I3 => (⟨p.1, k, 0, 0, 0, 0, 0, zC4, 0, 0, [], p.2⟩ : OpM)) (fun o => (o.id, o.tg))
  (fun a h => ⟨rfl, rfl, h.1, rfl, rfl, rfl, rfl, rfl, rfl, rfl, rfl, rfl, h.2⟩)
  (fun o h => by
   obtain ⟨id, kd, x, y, x2, y2, sz, co, sw, sh, px, tg⟩ := o
   obtain ⟨h1, h2, h3, h4, h5, h6, h7, h8, h9, h10, h11, h12⟩ := h
   dsimp only at h1 h2 h3 h4 h5 h6 h7 h8 h9 h10 h11 h12
   subst h1 h3 h4 h5 h6 h7 h8 h9 h10 h11
   exact ⟨⟨h2, h12⟩, rfl⟩)⟩
end Go.Proofs.YtofklkbfkoliiaaGreat
namespace Go.Proofs.YtofklkbfkoliiaaGreat
set_option linter.unusedVariables false
set_option linter.unusedSimpArgs false
def VL (C : Int) (tk : Tkr OpM) : Tkr OpM := fun b => (tk b).bind fun a r => if opB a then .ok a r else .err C
def tkK (S C k : Int) : Tkr OpM :=
 if k = 1 ∨ k = 2 then VL C (cd12 S C k).1 else if k = 3 ∨ k = 4 then VL C (cd34 S C k).1 else if k = 5 then VL C (cd5 S C k).1 else if k = 6 then VL C (cd6 S C k).1 else VL C (cd78 S C k).1
def isK (k : Int) : Bool := decide (1 ≤ k) && decide (k ≤ 8)
def UB (S C : Int) : Tkr OpM := fun b => (((tkN S 1 b).bind fun a r => if isK a then .ok a r else .err C).bind fun a r => (tkK S C a r).bind fun x r => Tk.ok (a, x) r).bind fun a r => .ok a.2 r
end Go.Proofs.YtofklkbfkoliiaaGreat
namespace Go.Proofs.YtofklkbfkoliiaaGreat
set_option linter.unusedVariables false
set_option linter.unusedSimpArgs false
def isM (n : Int) : Bool := decide (n ≤ 64)
def UC (S C : Int) : Tkr (List OpM) := fun b => (((tkN S 1 b).bind fun a r => if isM a then .ok a r else .err C).bind fun a r => (gO (UB S C) a.toNat r).bind fun x r => Tk.ok (a, x) r).bind fun a r => .ok a.2 r
def wl (l : List Int) : List Int := l.flatMap (kS 8)
theorem AM (S : Int) : Cd S (fun l : List Int => l.length = 8 ∧ ∀ n ∈ l, 0 ≤ n ∧ n < (256 ^ 8 : Nat)) wl (gO (tkN S 8) 8) := (cdN S 8).rep 8
end Go.Proofs.YtofklkbfkoliiaaGreat
namespace Go.Proofs.YtofklkbfkoliiaaGreat
set_option linter.unusedVariables false
set_option linter.unusedSimpArgs false
section
variable {α : Type} {S : Int} {ok : α → Prop} {lay : α → List Int} {tk : Tkr α}
theorem Cd.back (c : Cd S ok lay tk) {b r : List Int} {a : α} (hb : isB b) (h : tk b = .ok a r) : r.length ≤ b.length ∧ b.take (b.length - r.length) = lay a ∧ b.length - r.length = (lay a).length ∧ ok a := by
 obtain ⟨e, k⟩ := c.bwd b a r hb h
 have hl : b.length = (lay a).length + r.length := by rw [e, qaD]
 refine ⟨by omega, ?_, by omega, k⟩
 rw [show b.length - r.length = (lay a).length by omega, e, List.take_append_of_le_length (qaO _), qaX (qaO _)]
end
theorem GJ : ∀ w n, isB (w8 w n)
 | 0, _ => fun x h => by cases h
 | w + 1, n => fun x h => by
  rw [w8] at h
  rcases List.mem_cons.1 h with rfl | h
  ·omega
  ·exact GJ w n x h
theorem wm (w : Nat) (n : Int) : isB (kS w n) := GJ _ _
end Go.Proofs.YtofklkbfkoliiaaGreat
namespace Go.Proofs.YtofklkbfkoliiaaGreat
set_option linter.unusedVariables false
set_option linter.unusedSimpArgs false
def mkV (l : List Int) : Vec := fun i => if 1 ≤ i ∧ i ≤ 8 then (l.getD (i - 1) 0).toNat else 0
def gP (v : Vec) : List Int := [(v 1 : Int), v 2, v 3, v 4, v 5, v 6, v 7, v 8]
def vU (v : Vec) : List Int := wl (gP v)
def GK (S C : Int) : Tkr Vec := fun b => ((gO (tkN S 8) 8 b).bind fun a r => Tk.ok (mkV a) r).bind fun a r => if vB a then .ok a r else .err C
theorem UD {v : Vec} (h0 : v 0 = 0) (h9 : ∀ i, 9 ≤ i → v i = 0) : mkV (gP v) = v := by
 funext i
 unfold mkV
 by_cases h : 1 ≤ i ∧ i ≤ 8
 ·rw [if_pos h]
  have : i = 1 ∨ i = 2 ∨ i = 3 ∨ i = 4 ∨ i = 5 ∨ i = 6 ∨ i = 7 ∨ i = 8 := by omega
  rcases this with rfl | rfl | rfl | rfl | rfl | rfl | rfl | rfl <;> rfl
 ·rw [if_neg h]
  by_cases e : i = 0
  ·rw [e, h0]
  ·rw [h9 i (by omega)]
theorem UE : ∀ {l : List Int}, l.length = 8 → (∀ n ∈ l, 0 ≤ n) → gP (mkV l) = l
 | [a, b, c, d, e, f, g, h], _, hn => by
  have k : ∀ n ∈ [a, b, c, d, e, f, g, h], ((n.toNat : Nat) : Int) = n := fun n hm => Int.toNat_of_nonneg (hn n hm)
  show [((a.toNat : Nat) : Int), b.toNat, c.toNat, d.toNat, e.toNat, f.toNat, g.toNat, h.toNat] = _
  rw [k a (by simp), k b (by simp), k c (by simp), k d (by simp), k e (by simp), k f (by simp), k g (by simp), k h (by simp)]
theorem Hx (S C : Int) : Cd S (fun v : Vec => vB v = true ∧ ∀ i, 9 ≤ i → v i = 0) vU (GK S C) :=
 (((AM S).map (ok2 := fun v : Vec => v 0 = 0 ∧ (∀ i, 9 ≤ i → v i = 0) ∧ ∀ i, i < 9 → (v i : Int) < (256 ^ 8 : Nat)) mkV gP
  (fun l h => ⟨UE h.1 fun n hn => (h.2 n hn).1, rfl, fun i hi => if_neg (by omega), fun i hi => by
   unfold mkV
   by_cases e : 1 ≤ i ∧ i ≤ 8
   ·rw [if_pos e]
    have hl : i - 1 < l.length := by rw [h.1]; omega
    rw [qa2, qat hl]
    have := h.2 _ (qbf hl)
    show ((l[i - 1].toNat : Nat) : Int) < _
    rw [Int.toNat_of_nonneg this.1]
    exact this.2
   ·rw [if_neg e]
    decide⟩)
  (fun v h => ⟨⟨rfl, fun n hn => by
   have e : ∃ i, i < 9 ∧ n = (v i : Int) := by
    unfold gP at hn
    simp only [List.mem_cons, List.not_mem_nil, or_false] at hn
    rcases hn with e | e | e | e | e | e | e | e
    ·exact ⟨1, by omega, e⟩
    ·exact ⟨2, by omega, e⟩
    ·exact ⟨3, by omega, e⟩
    ·exact ⟨4, by omega, e⟩
    ·exact ⟨5, by omega, e⟩
    ·exact ⟨6, by omega, e⟩
    ·exact ⟨7, by omega, e⟩
    ·exact ⟨8, by omega, e⟩
   obtain ⟨i, hi, rfl⟩ := e
   exact ⟨Int.natCast_nonneg _, h.2.2 i hi⟩⟩, UD h.1 h.2.1⟩)).need C vB).iff fun v => by
  constructor
  ·intro h
   obtain ⟨a, b⟩ := vB_iff.1 h.1
   refine ⟨⟨a, h.2, fun i hi => ?_⟩, h.1⟩
   have e8 : ((256 ^ 8 : Nat) : Int) = 18446744073709551616 := by decide
   have : v i ≤ 4611686018427387904 := b i hi
   rw [e8]
   omega
  ·exact fun h => ⟨h.2, h.1.2.1⟩
end Go.Proofs.YtofklkbfkoliiaaGreat
namespace Go.Proofs.YtofklkbfkoliiaaGreat
set_option linter.unusedVariables false
set_option linter.unusedSimpArgs false
open Go.RowKit
section
variable {α β γ : Type}
theorem Tk.bind_bind (t : Tk α) (f : α → List Int → Tk β) (g : β → List Int → Tk γ) : (t.bind f).bind g = t.bind fun a r => (f a r).bind g := by cases t <;> rfl
theorem Tk.ok_bind (a : α) (r : List Int) (f : α → List Int → Tk β) : (Tk.ok a r).bind f = f a r := rfl
theorem Tk.err_bind (e : Int) (f : α → List Int → Tk β) : (Tk.err e : Tk α).bind f = .err e := rfl
theorem Tk.if_bind (p : Bool) (s t : Tk α) (f : α → List Int → Tk β) : (if p = true then s else t).bind f = if p = true then s.bind f else t.bind f := by split <;> rfl
theorem Tk.bind_congr {t : Tk α} {f g : α → List Int → Tk β} (h : ∀ a r, f a r = g a r) : t.bind f = t.bind g := by rw [show f = g from funext fun a => funext fun r => h a r]
theorem Tk.bind_ok {t : Tk α} {f : α → List Int → Tk β} {x : β} {r : List Int} (h : t.bind f = .ok x r) : ∃ a q, t = .ok a q ∧ f a q = .ok x r := by
 cases t with
 | ok a q => exact ⟨a, q, rfl, h⟩
 | err e => cases h
theorem Tk.bind_err {t : Tk α} {f : α → List Int → Tk β} {e : Int} (h : t.bind f = .err e) : t = .err e ∨ ∃ a q, t = .ok a q ∧ f a q = .err e := by
 cases t with
 | ok a q => exact .inr ⟨a, q, rfl, h⟩
 | err e' => cases h; exact .inl rfl
end
def okL (l : List Int) : Prop := isB l ∧ l.length ≤ 40000
theorem AN {α : Type} {S : Int} {ok : α → Prop} {lay : α → List Int} {tk : Tkr α} (c : Cd S ok lay tk) {l r : List Int} {a : α} (h : okL l) (e : tk l = .ok a r) : okL r := by
 obtain ⟨h1, _⟩ := c.bwd l a r h.1 e
 refine ⟨(isB_app.1 (h1 ▸ h.1)).2, ?_⟩
 have := h.2
 rw [h1, qaD] at this
 omega
abbrev tN := tkN 110
abbrev tId : Tkr I3 := tkId 110 290
abbrev tCo : Tkr C4 := UA 110
abbrev tSi : Tkr Int := tkSi 110 290
abbrev tSt : Tkr ((Int × Int) × List C4) := tkSt 110 290
abbrev tPl : Tkr Int := tkPl 110
abbrev tOp : Tkr OpM := UB 110 290
abbrev tRow : Tkr (List OpM) := UC 110 290
abbrev vV : Tkr Vec := GK 110 290
theorem QK {w : Nat} {l r : List Int} {n : Int} (h : okL l) (e : tN w l = .ok n r) : w ≤ l.length ∧ r = l.drop w ∧ n = (jK (l.take w) 0 : Int) ∧ (0 ≤ n ∧ n < (256 ^ w : Nat)) ∧ okL r := by
 refine ⟨?_, ?_, ?_, ((cdN 110 w).bwd l n r h.1 e).2, AN (cdN 110 w) h e⟩
 all_goals
  unfold tN tkN at e
  split at e
  ·cases e
  ·cases e
   first | omega | rfl
theorem UF {w : Nat} {l : List Int} {e : Int} (h : tN w l = .err e) : l.length < w ∧ e = 110 := by
 unfold tN tkN at h
 split at h
 ·cases h
  exact ⟨by assumption, rfl⟩
 ·cases h
def Js : Nat → List Nat
 | 1 => [0, 1, 2, 3, 4, 5]
 | 2 => [0, 1, 2, 3, 4, 5]
 | 3 => [0, 1, 2, 3, 5]
 | 4 => [0, 1, 2, 3, 5]
 | 5 => [0, 1, 4, 5]
 | 6 => [0, 1, 6]
 | 7 => [7]
 | 8 => [7]
 | _ => []
def tkF (f : Nat) (o : OpM) : Tkr OpM := fun b => match f with
 | 0 => (tPl b).bind fun a r => .ok { o with x := a } r
 | 1 => (tPl b).bind fun a r => .ok { o with y := a } r
 | 2 => (tPl b).bind fun a r => .ok { o with x2 := a } r
 | 3 => (tPl b).bind fun a r => .ok { o with y2 := a } r
 | 4 => (tN 2 b).bind fun a r => .ok { o with sz := a } r
 | 5 => (tCo b).bind fun a r => .ok { o with co := a } r
 | 6 => (tSt b).bind fun a r => .ok { o with sw := a.1.1, sh := a.1.2, px := a.2 } r
 | _ => (tId b).bind fun a r => .ok { o with tg := a } r
def UG : List Nat → OpM → Tkr OpM
 | [], o, b => if opB o then .ok o b else .err 290
 | f :: fs, o, b => (tkF f o b).bind fun o' r => UG fs o' r
def mk0 (k : Int) (i : I3) : OpM := ⟨i, k, 0, 0, 0, 0, 0, zC4, 0, 0, [], zI3⟩
theorem AO (b : List Int) : tOp b = (tN 1 b).bind fun k r => if isK k = true then (tId r).bind fun i r => UG (Js k.toNat) (mk0 k i) r else .err 290 := by
 unfold tOp UB
 simp only [Tk.bind_bind, Tk.if_bind, Tk.ok_bind, Tk.err_bind]
 refine Tk.bind_congr fun k r => ?_
 by_cases hk : isK k = true
 ·rw [if_pos hk, if_pos hk]
  have h8 : 1 ≤ k ∧ k ≤ 8 := by unfold isK at hk; simpa using hk
  have : k = 1 ∨ k = 2 ∨ k = 3 ∨ k = 4 ∨ k = 5 ∨ k = 6 ∨ k = 7 ∨ k = 8 := by omega
  rcases this with rfl | rfl | rfl | rfl | rfl | rfl | rfl | rfl <;>
   simp [tkK, VL, cd12, cd34, cd5, cd6, cd78, Js, UG, tkF, mk0, Tk.bind_bind, Tk.ok_bind, Tk.if_bind, Tk.err_bind]
 ·rw [if_neg hk, if_neg hk]
theorem Zj (b : List Int) : tRow b = (tN 1 b).bind fun a r => if isM a = true then gO tOp a.toNat r else .err 290 := by
 unfold tRow UC
 simp only [Tk.bind_bind, Tk.if_bind, Tk.ok_bind, Tk.err_bind]
 refine Tk.bind_congr fun a r => ?_
 by_cases h : isM a = true
 ·rw [if_pos h, if_pos h]
  cases gO (UB 110 290) a.toNat r <;> rfl
 ·rw [if_neg h, if_neg h]
def wF : Nat → Vec → Tkr Vec
 | 0, v, b => if vB v then .ok v b else .err 290
 | n + 1, v, b => (tN 8 b).bind fun x r => wF n (upV v (8 - n) x.toNat) r
theorem AP (x1 x2 x3 x4 x5 x6 x7 x8 : Int) : mkV [x1, x2, x3, x4, x5, x6, x7, x8] = upV (upV (upV (upV (upV (upV (upV (upV z9 (8 - 7) x1.toNat) (8 - 6) x2.toNat) (8 - 5) x3.toNat) (8 - 4) x4.toNat) (8 - 3) x5.toNat) (8 - 2) x6.toNat) (8 - 1) x7.toNat) (8 - 0) x8.toNat := by
 funext i
 unfold mkV upV
 have : i = 0 ∨ i = 1 ∨ i = 2 ∨ i = 3 ∨ i = 4 ∨ i = 5 ∨ i = 6 ∨ i = 7 ∨ i = 8 ∨ 9 ≤ i := by omega
 rcases this with rfl | rfl | rfl | rfl | rfl | rfl | rfl | rfl | rfl | h
 all_goals first | rfl | skip
 rw [if_neg (by omega), if_neg (by omega), if_neg (by omega), if_neg (by omega), if_neg (by omega), if_neg (by omega), if_neg (by omega), if_neg (by omega), if_neg (by omega)]
 rfl
theorem Jt (b : List Int) : vV b = wF 8 z9 b := by
 unfold vV GK
 simp only [gO, wF, Tk.bind_bind, Tk.ok_bind]
 refine Tk.bind_congr fun x1 r => Tk.bind_congr fun x2 r => Tk.bind_congr fun x3 r => Tk.bind_congr fun x4 r => Tk.bind_congr fun x5 r => Tk.bind_congr fun x6 r => Tk.bind_congr fun x7 r => Tk.bind_congr fun x8 r => ?_
 rw [AP]
theorem AQ (b : List Int) : tId b = (tN 8 b).bind fun t r => (tN 1 r).bind fun s r => (tN 8 r).bind fun q r => if uH ⟨t, s, q⟩ = true then .ok ⟨t, s, q⟩ r else .err 290 := by
 unfold tId tkId Hw
 simp only [Tk.bind_bind, Tk.ok_bind]
theorem AR (b : List Int) : tCo b = (tN 1 b).bind fun x r => (tN 1 r).bind fun y r => (tN 1 r).bind fun z r => (tN 1 r).bind fun w r => .ok ⟨x, y, z, w⟩ r := by
 unfold tCo UA
 simp only [Tk.bind_bind, Tk.ok_bind]
theorem AS (b : List Int) : tSt b = (tSi b).bind fun w r => (tSi r).bind fun h r => (gO tCo (w * h).toNat r).bind fun l r => .ok ((w, h), l) r := by
 unfold tSt tkSt
 simp only [Tk.bind_bind, Tk.ok_bind]
theorem Zk {a b : Nat} (ha : a < 72057594037927936) (hb : b < 256) : Vk (a : Int) (b : Int) = ((a * 256 + b : Nat) : Int) := by
 have h := H5 (n := a) (b := b) (j := 8) (by omega) (by omega)
 unfold Vk
 rw [IntWalk.u64_in _ (by omega), IntWalk.u64_in _ (by omega), h]
 omega
theorem GL : ∀ (l : List Int) (a : Nat), isB l → (a + 1) * 256 ^ l.length ≤ 18446744073709551616 → l.foldl Vk (a : Int) = (jK l a : Int)
 | [], a, _, _ => rfl
 | x :: l, a, h, hb => by
  have hx := h x (qa6 ..)
  have hl : isB l := fun y hy => h y (qa9 _ hy)
  have hp : 0 < 256 ^ l.length := zI _
  rw [qaU, Nat.pow_succ] at hb
  have ha : a < 72057594037927936 := by
   have : (a + 1) * 256 ≤ (a + 1) * (256 ^ l.length * 256) := Nat.mul_le_mul_left _ (by omega)
   omega
  obtain ⟨m, rfl⟩ : ∃ m : Nat, x = m := ⟨x.toNat, by omega⟩
  rw [List.foldl_cons, Zk ha (by omega), GL l (a * 256 + m) hl ?_]
  ·unfold jK
   rw [List.foldl_cons, qbe]
  ·have : (a * 256 + m + 1) * 256 ^ l.length ≤ ((a + 1) * 256) * 256 ^ l.length := qa8 _ (by omega)
   rw [Nat.mul_assoc (a + 1), Nat.mul_comm 256] at this
   omega
theorem xg {w : Nat} {l : List Int} (h : isB l) (hw : w ≤ 8) (hl : w ≤ l.length) : ky w l = (jK (l.take w) 0 : Int) := by
 unfold ky
 refine GL (l.take w) 0 (fun x hx => h x (List.mem_of_mem_take hx)) ?_
 rw [qaT, Nat.min_eq_left hl, qau, Nat.one_mul]
 exact qaM (Nat.pow_le_pow_right (n := 256) (by decide) hw) (by decide)
theorem AT {n : Int} (hn : 0 ≤ n) (w : Nat) : YE n w = kS w n := by
 obtain ⟨m, rfl⟩ : ∃ m : Nat, n = m := ⟨n.toNat, by omega⟩
 unfold kS
 rw [qbe]
 induction w with
 | zero => rfl
 | succ w ih => rw [Vm, ih]; rfl
theorem GM {w : Nat} {n : Int} (hw : 1 ≤ w ∧ w ≤ 8) (hn : 0 ≤ n) : vG w n = kS w n := by rw [Vn n w hw, AT hn]
theorem UH {w : Nat} {n : Int} (hn : 0 ≤ n ∧ n < (256 ^ w : Nat)) : Kz w n = true := by
 have e : n / 2 ^ (8 * w) = 0 := Int.ediv_eq_zero_of_lt hn.1 (by
  rw [Int.pow_mul]
  have h2 := hn.2
  rw [Int.natCast_pow] at h2
  exact h2)
 unfold Kz
 rw [e]
 simp
theorem j3 (w : Nat) (n : Int) : (kS w n).length = w := uO _ _
theorem AU {w : Nat} {l r : List Int} {n : Int} (h : okL l) (hw : w ≤ 8) (e : tN w l = .ok n r) : w ≤ l.length ∧ r = l.drop w ∧ n = ky w l ∧ (0 ≤ n ∧ n < (256 ^ w : Nat)) ∧ okL r := by
 obtain ⟨h1, h2, h3, h4, h5⟩ := QK h e
 exact ⟨h1, h2, by rw [h3, xg h.1 hw h1], h4, h5⟩
theorem Hy {k : Nat} {x : Mem} : (qaJ k Mem.gone ++ [x])[k]? = some x := by
 rw [qaP (by rw [qaS]; omega), qaS, Nat.sub_self]
 rfl
theorem AV {k : Nat} {x : Mem} : (qaJ k Mem.gone ++ [x]).length = k + 1 := by
 rw [qaD, qaS]
 rfl
theorem AW {k : Nat} {x : Mem} : (qaJ k Mem.gone ++ [x]).set k .gone = qaJ (k + 1) Mem.gone := by
 rw [List.set_append_right _ _ (by rw [qaS]; omega), qaS, Nat.sub_self, List.replicate_succ']
 rfl
abbrev fmY (k : Nat) (l : List Int) : Blk := .fam (qaJ k .gone ++ [.arr 5 1 l.length (l.flatMap uc8)])
theorem fm_eq {k m m' : Nat} {x : Mem} {L L' : List Value} (h : m = m') (h' : L = L') : some (Blk.fam ((qaJ k Mem.gone ++ [x]).set k .gone ++ [.arr 5 1 m L])) = some (Blk.fam (qaJ (k + 1) .gone ++ [.arr 5 1 m' L'])) := by
 rw [AW, h, h']
theorem AX {k : Nat} {x : Mem} {l l2 : List Int} : some (Blk.fam ((qaJ k Mem.gone ++ [x]).set k .gone ++ [.arr 5 1 (l.length + l2.length) (l.flatMap uc8 ++ l2.flatMap uc8)])) = some (fmY (k + 1) (l ++ l2)) := fm_eq (by rw [qaD]) (by rw [qbg])
theorem Hz {w : Nat} {l r : List Int} {n : Int} (h : okL l) (e : tN w l = .ok n r) : okL r := (QK h e).2.2.2.2
theorem Zl {l : List Int} (h : okL l) : l.length ≤ 2000000 := qaM h.2 (by decide)
theorem Zm {j : Nat} (hj : j < 8) {u v : Vec} {l r : List Int} (h : wF (8 - j) u l = .ok v r) : ∃ n q, tN 8 l = .ok n q ∧ wF (8 - (j + 1)) (upV u (j + 1) n.toNat) q = .ok v r := by
 rw [show 8 - j = (8 - (j + 1)) + 1 by omega] at h
 obtain ⟨n, q, h1, h2⟩ := Tk.bind_ok h
 rw [show 8 - (8 - (j + 1)) = j + 1 by omega] at h2
 exact ⟨n, q, h1, h2⟩
theorem Zn {j : Nat} (hj : j < 8) {u : Vec} {l : List Int} {e : Int} (h : wF (8 - j) u l = .err e) : tN 8 l = .err e ∨ ∃ n q, tN 8 l = .ok n q ∧ wF (8 - (j + 1)) (upV u (j + 1) n.toNat) q = .err e := by
 rw [show 8 - j = (8 - (j + 1)) + 1 by omega] at h
 rcases Tk.bind_err h with h1 | ⟨n, q, h1, h2⟩
 ·exact .inl h1
 ·rw [show 8 - (8 - (j + 1)) = j + 1 by omega] at h2
  exact .inr ⟨n, q, h1, h2⟩
theorem AY {j : Nat} (hj : ¬ j < 8) {u v : Vec} {l r : List Int} (h : wF (8 - j) u l = .ok v r) : vB v = true ∧ u = v ∧ l = r := by
 rw [show 8 - j = 0 by omega] at h
 unfold wF at h
 split at h
 ·cases h
  exact ⟨by assumption, rfl, rfl⟩
 ·cases h
theorem Zo {j : Nat} (hj : ¬ j < 8) {u : Vec} {l : List Int} {e : Int} (h : wF (8 - j) u l = .err e) : vB u = false ∧ e = 290 := by
 rw [show 8 - j = 0 by omega] at h
 unfold wF at h
 split at h
 ·cases h
 ·cases h
  exact ⟨by simpa using ‹¬ vB u = true›, rfl⟩
def Er {α : Type} (t : Tk α) : Prop := ∀ e, t = .err e → e = 110 ∨ e = 290
theorem Er.ok {α : Type} {a : α} {r : List Int} : Er (Tk.ok a r) := fun e h => by cases h
theorem Er.e1 {α : Type} : Er (Tk.err 110 : Tk α) := fun e h => by cases h; exact .inl rfl
theorem Er.e2 {α : Type} : Er (Tk.err 290 : Tk α) := fun e h => by cases h; exact .inr rfl
theorem Er.bind {α β : Type} {t : Tk α} {f : α → List Int → Tk β} (h : Er t) (k : ∀ a r, Er (f a r)) : Er (t.bind f) := fun e he => by
 rcases Tk.bind_err he with h1 | ⟨a, q, _, h2⟩
 ·exact h e h1
 ·exact k a q e h2
theorem Er.ite {α : Type} {p : Bool} {s t : Tk α} (h : Er s) (k : Er t) : Er (if p = true then s else t) := by
 split
 ·exact h
 ·exact k
theorem Er.N (w : Nat) (b : List Int) : Er (tN w b) := fun e h => .inl (UF h).2
theorem Er.rep {α : Type} {tk : Tkr α} (h : ∀ b, Er (tk b)) : ∀ n b, Er (gO tk n b)
 | 0, b => Er.ok
 | n + 1, b => Er.bind (h b) fun a r => Er.bind (Er.rep h n r) fun l r => Er.ok
theorem Er.I (b : List Int) : Er (tId b) := by
 rw [AQ]
 exact Er.bind (Er.N 8 b) fun _ r => Er.bind (Er.N 1 r) fun _ r => Er.bind (Er.N 8 r) fun _ r => Er.ite Er.ok Er.e2
theorem Er.C (b : List Int) : Er (tCo b) := by
 rw [AR]
 exact Er.bind (Er.N 1 b) fun _ r => Er.bind (Er.N 1 r) fun _ r => Er.bind (Er.N 1 r) fun _ r => Er.bind (Er.N 1 r) fun _ r => Er.ok
theorem Er.S (b : List Int) : Er (tSt b) := by
 rw [AS]
 exact Er.bind (Er.bind (Er.N 1 b) fun _ r => Er.ite Er.ok Er.e2) fun _ r => Er.bind (Er.bind (Er.N 1 r) fun _ r => Er.ite Er.ok Er.e2) fun _ r => Er.bind (Er.rep Er.C _ r) fun _ r => Er.ok
theorem Er.V (b : List Int) : Er (vV b) := by
 rw [Jt]
 have go : ∀ n v b, Er (wF n v b) := fun n => by
  induction n with
  | zero => exact fun v b => Er.ite Er.ok Er.e2
  | succ n ih => exact fun v b => Er.bind (Er.N 8 b) fun x r => ih _ r
 exact go 8 z9 b
theorem Er.F (f : Nat) (o : OpM) (b : List Int) : Er (tkF f o b) := by
 unfold tkF
 split
 ·exact Er.bind (Er.bind (Er.N 1 b) fun _ _ => Er.ok) fun _ _ => Er.ok
 ·exact Er.bind (Er.bind (Er.N 1 b) fun _ _ => Er.ok) fun _ _ => Er.ok
 ·exact Er.bind (Er.bind (Er.N 1 b) fun _ _ => Er.ok) fun _ _ => Er.ok
 ·exact Er.bind (Er.bind (Er.N 1 b) fun _ _ => Er.ok) fun _ _ => Er.ok
 ·exact Er.bind (Er.N 2 b) fun _ _ => Er.ok
 ·exact Er.bind (Er.C b) fun _ _ => Er.ok
 ·exact Er.bind (Er.S b) fun _ _ => Er.ok
 ·exact Er.bind (Er.I b) fun _ _ => Er.ok
theorem Er.Fs : ∀ fs o b, Er (UG fs o b)
 | [], o, b => Er.ite Er.ok Er.e2
 | f :: fs, o, b => Er.bind (Er.F f o b) fun o' r => Er.Fs fs o' r
theorem Er.O (b : List Int) : Er (tOp b) := by
 rw [AO]
 exact Er.bind (Er.N 1 b) fun k r => Er.ite (Er.bind (Er.I r) fun i r => Er.Fs _ _ r) Er.e2
theorem Er.R (b : List Int) : Er (tRow b) := by
 rw [Zj]
 exact Er.bind (Er.N 1 b) fun k r => Er.ite (Er.rep Er.O _ r) Er.e2
end Go.Proofs.YtofklkbfkoliiaaGreat
namespace Go.Proofs.YtofklkbfkoliiaaGreat
set_option linter.unusedVariables false
set_option linter.unusedSimpArgs false
open Go.RowKit
theorem AZ (w : Nat) (n : Int) (hw : 1 ≤ w ∧ w ≤ 8) (hn : 0 ≤ n ∧ n < (256 ^ w : Nat)) : DFun Tryz.prog 108 [.slf 1 0 [], .val (.int .i64 (w : Int)), .val (.int .u64 n)] [] (.tup [.slf 1 (kS w n).length ((kS w n).flatMap uc8), .val (.int .i64 0)]) [] := by
 have h := X2 [] w n (by decide) hw (UH hn)
 rw [qaH, GM hw hn.1] at h
 exact h
theorem A0 (o : OpM) (k : Nat) (l : List Int) (w : Nat) (n : Int) (hw : 1 ≤ w ∧ w ≤ 8) (hn : 0 ≤ n ∧ n < (256 ^ w : Nat)) (hl : l.length ≤ 50000) : DFun Tryz.prog 85 [.loc 0 0, .val (.int .i64 (w : Int)), .val (.int .u64 n)] [.mix 140 (opD o ++ [.farr 1 k]), fmY k (l)] (.tup []) [.mix 140 (opD o ++ [.farr 1 (k + 1)]), fmY (k + 1) (l ++ kS w n)] := by
 refine zap (N := 23) 2 (by kernel_rfl) Tryz.func85 rfl rfl rfl (by simp only [fr0, qau, qaw]; exact rfl) rfl fun s0 hs0 => ?_
 refine zah ?_
 refine zaa 2 rfl ?_
 refine za rfl (zai [] [] [] rfl (ev1 rfl) (ec (WA 1 (ev1 rfl)) (ec (ev1 rfl) (ec (ev1 rfl) en))) rfl rfl (AZ w n hw hn) rfl rfl rfl rfl rfl rfl) ?_
 refine zaa 5 rfl ?_
 refine zab ?_
 have hlw := j3 w n
 refine zam 2 ?_
 refine zac ?_
 refine zaa 2 rfl ?_
 refine za rfl (qw rfl (ev1 rfl) (fun s v h => by cases h; exact ⟨_, rfl⟩)) ?_
 refine za rfl (qa rfl Jn (ev1 rfl)) ?_
 refine za rfl (zaq rfl kC (ev1 rfl) rfl rfl) ?_
 refine zaa 1 rfl ?_
 refine zaj rfl ((Qq (j1 := 2) (j2 := 3) rfl rfl qu zr5 rfl (ev1 rfl) (ev1 rfl) rfl (Hy) rfl rfl rfl (fun _ => ym (fun _ => rfl) _) (fun _ => ⟨by omega, by omega⟩)).cast (d' := .farr 1 (k + 1)) (by rw [AV])) ?_
 refine za rfl (qw rfl (ev1 rfl) (fun s v h => by cases h; exact ⟨_, rfl⟩)) ?_
 refine za rfl (qa rfl Jn (ev1 rfl)) ?_
 refine zar rfl (kL rfl kC (ev1 rfl) (ev1 rfl) (fun s v h => by cases h <;> exact ⟨rfl, rfl⟩) rfl (by first | decide | exact qaF rfl | simp)) ?_
 refine zab ?_
 refine qY [0, 1] (qF rfl) rfl rfl ?_ ⟨?_, ?_, trivial⟩
 rfl
 rfl
 exact AX
theorem A1 {k k' : Nat} {l l' : List Int} (h : k = k') (h' : l = l') : some (fmY k l) = some (fmY k' l') := by rw [h, h']
end Go.Proofs.YtofklkbfkoliiaaGreat
namespace Go.Proofs.YtofklkbfkoliiaaGreat
set_option linter.unusedVariables false
set_option linter.unusedSimpArgs false
open Go.RowKit
theorem UI {σ : List Nat} {V : Nat → Bool} {M : List Blk} {Bs : List Mem} {e : TypeId} {j k sz m : Nat} {L : List Value} (hpj : pos σ j = none) (hVj : V j = true) (hMj : M[j]? = some (.fam Bs)) (hB : Bs[k]? = some (.arr e sz m L)) : vw σ V M (.farr j k) = some (.slf sz m L) := by
 unfold vw
 rw [hpj]
 show yf V M j k = _
 unfold yf
 rw [hVj, hMj]
 show (match Bs[k]? with | some (.arr _ sz n L) => some (D.slf sz n L) | _ => none) = _
 rw [hB]
theorem Zp (o : OpM) (k : Nat) (l : List Int) (hl : l.length ≤ 50000) : DFun Tryz.prog 86 [.loc 0 0] [.mix 140 (opD o ++ [.farr 1 k]), fmY k (l)] (.arr 2) [.mix 140 (opD o ++ [.farr 1 k]), fmY k (l), .arr 5 1 (l).length ((l).flatMap uc8)] := by
 refine zap (N := 8) 2 (by kernel_rfl) Tryz.func86 rfl rfl rfl (by simp only [fr0, qau, qaw]; exact rfl) rfl fun s0 hs0 => ?_
 refine zah ?_
 refine zaa 1 rfl ?_
 refine zab ?_
 refine zae ?_
 refine zam 1 ?_
 refine zac ?_
 refine zaa 1 rfl ?_
 refine za rfl (qw rfl (ev1 rfl) (fun s v h => by cases h; exact ⟨_, rfl⟩)) ?_
 refine za rfl (qa rfl Jn (ev1 rfl)) ?_
 refine za rfl (zaq rfl kC (ev1 rfl) rfl rfl) ?_
 refine zaj rfl (zai [] [1] [2] rfl (ev1 rfl) (ec (ev1 rfl) en) (jc (UI rfl rfl rfl Hy) rfl) rfl (YO l (by omega)) rfl rfl rfl rfl rfl rfl) ?_
 refine zaa 1 rfl ?_
 refine zab ?_
 refine qb ?_
 refine qY [0, 1, 2] (rs1 rfl (qJ rfl)) rfl rfl ?_ ⟨rfl, rfl, rfl, trivial⟩
 rfl
def zO : OpM := ⟨zI3, 0, 0, 0, 0, 0, 0, zC4, 0, 0, [], zI3⟩
theorem wkZ : WkL ([.int .u64 0, .int .i64 0, .int .u64 0, .int .i64 0, .int .i64 0, .int .i64 0, .int .i64 0, .int .i64 0, .int .i64 0, .int .u8 0, .int .u8 0, .int .u8 0, .int .u8 0, .int .i64 0, .int .i64 0, .slice none 0 0, .int .u64 0, .int .i64 0, .int .u64 0, .slice none 0 0].map D.val) (opD zO ++ [.val (.slice none 0 0)]) :=
 WkL.cons (Wk.refl _) (WkL.cons (Wk.refl _) (WkL.cons (Wk.refl _) (WkL.cons (Wk.refl _) (WkL.cons (Wk.refl _) (WkL.cons (Wk.refl _) (WkL.cons (Wk.refl _) (WkL.cons (Wk.refl _) (WkL.cons (Wk.refl _) (WkL.cons (Wk.refl _) (WkL.cons (Wk.refl _) (WkL.cons (Wk.refl _) (WkL.cons (Wk.refl _) (WkL.cons (Wk.refl _) (WkL.cons (Wk.refl _) (WkL.cons (Wk.slf0 4) (WkL.cons (Wk.refl _) (WkL.cons (Wk.refl _) (WkL.cons (Wk.refl _) (WkL.cons (Wk.refl _) (WkL.nil))))))))))))))))))))
theorem Zq {v : Vec} (hv : vB v = true) {n : Int} (h : n ∈ gP v) : 0 ≤ n ∧ n < (256 ^ 8 : Nat) := by
 have e8 : ((256 ^ 8 : Nat) : Int) = 18446744073709551616 := by decide
 rw [e8]
 have h9 := (vB_iff.1 hv).2
 unfold gP at h
 simp only [List.mem_cons, List.not_mem_nil, or_false] at h
 have a1 := h9 1 (by decide)
 have a2 := h9 2 (by decide)
 have a3 := h9 3 (by decide)
 have a4 := h9 4 (by decide)
 have a5 := h9 5 (by decide)
 have a6 := h9 6 (by decide)
 have a7 := h9 7 (by decide)
 have a8 := h9 8 (by decide)
 unfold LAST at a1 a2 a3 a4 a5 a6 a7 a8
 rcases h with h | h | h | h | h | h | h | h <;> subst h <;> omega
theorem KM (l : List Int) : (wl l).length = 8 * l.length := by
 unfold wl
 induction l with
 | nil => rfl
 | cons a l ih => rw [qaL, qaD, ih, j3, qaU]; omega
theorem YQ {l : List Int} {j : Nat} (h : j < l.length) : wl (l.take (j + 1)) = wl (l.take j) ++ kS 8 l[j] := by
 unfold wl
 rw [qa0 h, qbg]
 simp
theorem A2 (v : Vec) (hv : vB v = true) : DFun Tryz.prog 50 [.val (.agg (c9 v).toArray)] [] (.tup [.arr 0, .val (.int .i64 0)]) [.arr 5 1 (vU v).length ((vU v).flatMap uc8)] := by
 refine zap (N := 26) 0 (by kernel_rfl) Tryz.func50 rfl rfl rfl (by simp only [fr0, qau, qaw]; exact rfl) rfl fun s0 hs0 => ?_
 refine zae ?_
 refine zam 1 ?_
 refine zac ?_
 refine zaj rfl (gC 0 rfl (ev1 rfl) rfl) ?_
 refine zaa 2 rfl ?_
 refine zab ?_
 refine zae ?_
 refine zah ?_
 refine za rfl (kv rfl gK (ev1 rfl) rfl rfl) ?_
 refine za rfl (zai [] [] [] rfl (ev1 rfl) (ec (ev1 rfl) en) rfl rfl (uJ v) rfl rfl rfl rfl rfl rfl) ?_
 refine zaa 1 rfl ?_
 refine zab ?_
 refine zah ?_
 refine zaa 1 rfl ?_
 refine za rfl (ka rfl (ev1 rfl) (ev1 rfl)) ?_
 refine zab ?_
 refine qc rfl (by rw [hv]; rfl) ?_
 refine zao ?_
 refine zae ?_
 refine zam 1 ?_
 refine zac ?_
 refine zaj rfl (zan 1 rfl zr140 rfl) ?_
 refine zab ?_
 refine zae ?_
 refine jf 1 yT rfl rfl (by simp only [qaE, qaH, zad, zaf, List.map]; exact rfl) ?_
 refine jf 1 (Yz wkZ) rfl rfl (by simp only [qaE, qaH, zad, zaf, List.map]; exact rfl) ?_
 refine vF (l' := opD zO ++ [.arr 2]) 1 19 5 1 rfl rfl rfl rfl (by simp only [qaE, qaH, zad, zaf, qaU, qbd, qau, qaw]; exact rfl) ?_
 refine jf 2 Ji rfl rfl (by simp only [qaE, qaH, zad, zaf, qaU, qbd, qau, qaw]; exact rfl) ?_
 refine jL ?_
 refine Jf 3 rfl (by simp only [qaE, qaH, zad, zaf, qaU, qbd, qau, qaw]; exact rfl) ?_
 refine Gi 1 19 3 rfl rfl rfl rfl (by simp only [qaE, qaH, zad, zaf, qaU, qbd, qau, qaw]; exact rfl) ?_
 refine zac ?_
 refine za rfl (qV rfl (ec (ev1 rfl) en) en) ?_
 refine zaa 1 rfl ?_
 refine zab ?_
 refine zae ?_
 refine zae ?_
 refine J6 ⟨hs0, rfl⟩ [1, 3] [0] [(1, _), (2, _), (3, _), (5, _), (6, _)] [_, _] rfl ⟨rfl, rfl, rfl, rfl, rfl, trivial⟩ ⟨rfl, rfl, trivial⟩ ?_
 refine zac ?_
 refine za rfl (XJ (p := 1) (q := 9) rfl ar27 (yo (ev1 rfl) (Wk.of_eq (show D.dpf (c9 v) = D.dpf ((((v 0 : Nat) : Int) :: gP v).flatMap uc) from rfl))) (kB (ev1 rfl)) uw (fun _ => rfl) (fun _ => rfl) (fun _ => by decide) (rfl) (by decide) (fun _ => rfl)) ?_
 refine za rfl ((qt rfl KA (ev1 rfl)).cast (d' := .val (.int .i64 8)) (by rfl)) ?_
 refine zaa 1 rfl ?_
 refine zab ?_
 refine zas ?_
 refine Ah 15 rfl (Wk.of_eq (show _ = .slf 1 (gP v).length ((gP v).flatMap uc) from rfl)) ?_
 refine qI ⟨hs0, rfl⟩ (α := Nat) (fun j => [(17, .val (.int .i64 (j : Int)))]) [(5, _), (6, _), (15, _), (16, _)] (fun j => [(0, .mix 140 (opD zO ++ [.farr 1 j])), (1, fmY j (wl ((gP v).take j)))]) [.hole, .hole] (fun j => j ≤ 8) (fun j => 8 - j) 0 [0, 1] (by omega) rfl ⟨rfl, rfl, rfl, rfl, trivial⟩ ⟨rfl, trivial⟩ ⟨rfl, rfl, trivial⟩ ?_
 intro j hx
 simp only [upd, zad, zaf, qaE, qaH]
 have hj := hx
 have hn8 : (gP v).length = 8 := rfl
 have hlj := KM ((gP v).take j)
 rw [qaT] at hlj
 refine zah ?_
 refine za rfl (qA rfl (ev1 rfl) (ev1 rfl)) ?_
 refine zab ?_
 refine zae ?_
 refine qe rfl (fun c2 => ?_) (fun c2 => ?_)
 ·try simp only [decide_eq_true_eq, decide_eq_false_iff_not, beq_iff_eq, bne_iff_ne, beq_eq_false_iff_ne, bne_eq_false_iff_eq, qaz, qaA, qav, qaB, qax, ne_eq, Decidable.not_not, qaQ, qaR] at c2
  refine zao ?_
  refine zae ?_
  refine zas ?_
  refine zah ?_
  refine za rfl (qP (l := gP v) (en := uc) (j := j) rfl KA (ev1 rfl) (ev1 rfl) (fun _ => rfl) (by decide) (by omega) (by rw [hn8]; omega)) ?_
  refine za rfl (qS rfl ku (ev1 rfl) rfl) ?_
  refine zaa 1 rfl ?_
  refine zab ?_
  refine zac ?_
  refine zaa 2 rfl ?_
  refine zaj rfl (zai [0, 1] [] [] rfl (ev1 rfl) (ec (ev1 rfl) (ec (ev1 rfl) en)) rfl rfl (A0 zO j (wl ((gP v).take j)) 8 (gP v)[j] (by decide) (Zq hv (qbf _)) (by omega)) rfl rfl rfl rfl rfl rfl) ?_
  refine zab ?_
  refine zac ?_
  refine za rfl (qh rfl (ev1 rfl) (ev1 rfl) (fun _ => qaC _ (by omega))) ?_
  refine zaa 1 rfl ?_
  refine zab ?_
  refine ⟨j + 1, [0, 1], by omega, by simp only []; omega, rfl, ⟨rfl, rfl, rfl, rfl, rfl, trivial⟩, ⟨rfl, A1 rfl (by rw [YQ (by rw [hn8]; omega)]), trivial⟩⟩
 ·try simp only [decide_eq_true_eq, decide_eq_false_iff_not, beq_iff_eq, bne_iff_ne, beq_eq_false_iff_ne, bne_eq_false_iff_eq, qaz, qaA, qav, qaB, qax, ne_eq, Decidable.not_not, qaQ, qaR] at c2
  refine qr ?_
  refine zae ?_
  obtain rfl : j = 8 := by omega
  refine zam 1 ?_
  refine zac ?_
  refine zaj rfl (zai [0, 1] [] [2] rfl (ev1 rfl) (ec (ev1 rfl) en) rfl rfl (Zp zO (8) (wl ((gP v).take 8)) (by omega)) rfl rfl rfl rfl rfl rfl) ?_
  refine zaa 2 rfl ?_
  refine zab ?_
  refine qb ?_
  refine qY [2] (rs2 rfl (qJ rfl) (qJ rfl)) rfl rfl ?_ ⟨rfl, trivial⟩
  rfl
end Go.Proofs.YtofklkbfkoliiaaGreat
namespace Go.Proofs.YtofklkbfkoliiaaGreat
set_option linter.unusedVariables false
set_option linter.unusedSimpArgs false
open Go.RowKit
attribute [local irreducible] tkN jK ky
theorem UJ : DFun Tryz.prog 115 [.val .nilIface] [] (.val (.int .i64 0)) [] := by
 refine zap (N := 13) 0 (by kernel_rfl) Tryz.func115 rfl rfl rfl (by simp only [fr0, qau, qaw]; exact rfl) rfl fun s0 hs0 => ?_
 refine zah ?_
 refine zaa 1 rfl ?_
 refine zab ?_
 refine zae ?_
 refine zae ?_
 refine zam 1 ?_
 refine zac ?_
 refine zaa 1 rfl ?_
 refine za rfl (K5 rfl W3 zv203 (ev1 rfl)) ?_
 refine zaa 3 rfl ?_
 refine zaj rfl (zan 0 rfl W6 rfl) ?_
 refine zar rfl (qQ rfl Hn (ev1 rfl) (ev1 rfl) rfl rfl rfl rfl) ?_
 refine zaa 1 rfl ?_
 refine zab ?_
 refine zah ?_
 refine zaa 1 rfl ?_
 refine zab ?_
 refine qc rfl (rfl) ?_
 refine zao ?_
 refine zah ?_
 refine zaa 1 rfl ?_
 refine zab ?_
 refine qb ?_
 refine qx (rs1 rfl (qJ rfl)) rfl ?_
 rfl
theorem Zr (n : Int) : DFun Tryz.prog 115 [.ifc 203 (.val (.agg #[.int .i64 n]))] [] (.val (.int .i64 n)) [] := by
 refine zap (N := 13) 0 (by kernel_rfl) Tryz.func115 rfl rfl rfl (by simp only [fr0, qau, qaw]; exact rfl) rfl fun s0 hs0 => ?_
 refine zah ?_
 refine zaa 1 rfl ?_
 refine zab ?_
 refine zae ?_
 refine zae ?_
 refine zam 1 ?_
 refine zac ?_
 refine zaa 1 rfl ?_
 refine za rfl (K4 rfl W3 (ev1 rfl)) ?_
 refine zaa 3 rfl ?_
 refine zaj rfl (zan 0 rfl W6 rfl) ?_
 refine zar rfl (qQ rfl Hn (ev1 rfl) (ev1 rfl) rfl rfl rfl rfl) ?_
 refine zaa 1 rfl ?_
 refine zab ?_
 refine zah ?_
 refine zaa 1 rfl ?_
 refine zab ?_
 refine qM rfl (rfl) ?_
 refine zah ?_
 refine za rfl (qa rfl X0 (ev1 rfl)) ?_
 refine za rfl (qi rfl qT (ev1 rfl) rfl rfl) ?_
 refine zaa 1 rfl ?_
 refine zab ?_
 refine qb ?_
 refine qx (rs1 rfl (qJ rfl)) rfl ?_
 rfl
theorem uQ (b : Bool) (e : Int) (h : b = true) : DFun Tryz.prog 117 [.val (.bool b), .val (.int .i64 e)] [] (.tup []) [] := by
 refine zap (N := 9) 0 (by kernel_rfl) Tryz.func117 rfl rfl rfl (by simp only [fr0, qau, qaw]; exact rfl) rfl fun s0 hs0 => ?_
 refine zah ?_
 refine zaa 1 rfl ?_
 refine za rfl (ko rfl (ev1 rfl)) ?_
 refine zab ?_
 refine qc rfl (by simp [h]) ?_
 refine zao ?_
 refine qx (qF rfl) rfl ?_
 rfl
theorem GN (b : Bool) (e : Int) (h : b = false) : DPan Tryz.prog 117 [.val (.bool b), .val (.int .i64 e)] [] (.ifc 203 (.val (.agg #[.int .i64 e]))) [] := by
 refine zap (N := 9) 0 (by kernel_rfl) Tryz.func117 rfl rfl rfl (by simp only [fr0, qau, qaw]; exact rfl) rfl fun s0 hs0 => ?_
 refine zah ?_
 refine zaa 1 rfl ?_
 refine za rfl (ko rfl (ev1 rfl)) ?_
 refine zab ?_
 refine qM rfl (by simp [h]) ?_
 refine zac ?_
 refine zaa 1 rfl ?_
 refine za rfl (kU (ps := [(0, .tmp 6)]) rfl fl203 W6 (vc (ev1 rfl) vn) rfl rfl) ?_
 refine za rfl (xq rfl W3 (ev1 rfl)) ?_
 refine qZ rfl (wb rfl (ev1 rfl)) rfl ?_
 refine JY rfl ?_
 rfl
theorem xT (L : List Int) (e : Int) : DFun Tryz.prog 131 [.dpm [.slf 1 (L).length ((L).flatMap uc8), .val (.int .i64 e)]] [] (.val (.int .i64 e)) [] := by
 refine zap (N := 10) 0 (by kernel_rfl) Tryz.func131 rfl rfl rfl (by simp only [fr0, qau, qaw]; exact rfl) rfl fun s0 hs0 => ?_
 refine zah ?_
 refine zaa 1 rfl ?_
 refine zab ?_
 refine zae ?_
 refine zah ?_
 refine zaa 1 rfl ?_
 refine za rfl (Gb rfl QA (ev1 rfl)) ?_
 refine zab ?_
 refine qc rfl (rfl) ?_
 refine zao ?_
 refine zah ?_
 refine zaa 1 rfl ?_
 refine za rfl (qw rfl (ev1 rfl) (fun s v h => by cases h; exact ⟨_, rfl⟩)) ?_
 refine za rfl (xN rfl gm (ev1 rfl)) ?_
 refine za rfl (xN rfl yr (ev1 rfl)) ?_
 refine za rfl (gE rfl qT (ev1 rfl) rfl) ?_
 refine zaa 1 rfl ?_
 refine zab ?_
 refine qb ?_
 refine qx (rs1 rfl (qJ rfl)) rfl ?_
 rfl
theorem QL (o : OpM) (L : List Int) (hL : okL L) (w : Nat) (hw : 1 ≤ w ∧ w ≤ 8) (n : Int) (r : List Int) (h : tN w L = .ok n r) : DFun Tryz.prog 119 [.loc 0 0, .val (.int .i64 (w : Int))] [.mix 178 (.loc 1 0 :: opD o), .mix 206 [.slf 1 (L).length ((L).flatMap uc8), .val (.int .i64 0)]] (.val (.int .u64 n)) [.mix 178 (.loc 1 0 :: opD o), .mix 206 [.slf 1 (r).length ((r).flatMap uc8), .val (.int .i64 0)]] := by
 refine zap (N := 25) 2 (by kernel_rfl) Tryz.func119 rfl rfl rfl (by simp only [fr0, qau, qaw]; exact rfl) rfl fun s0 hs0 => ?_
 refine zae ?_
 obtain ⟨h1, h2, h3, h4, h5⟩ := AU hL hw.2 h
 subst h2 h3
 refine zac ?_
 refine zaa 1 rfl ?_
 refine zab ?_
 refine zah ?_
 refine zaa 1 rfl ?_
 refine za rfl (qw rfl (ev1 rfl) (fun s v h => by cases h; exact ⟨_, rfl⟩)) ?_
 refine za rfl (qa rfl vH (ev1 rfl)) ?_
 refine za rfl (zaq rfl gj (ev1 rfl) rfl rfl) ?_
 refine zaa 1 rfl ?_
 refine zaj rfl (zai [1] [] [] rfl (ev1 rfl) (ec (ev1 rfl) (ec (ev1 rfl) en)) rfl rfl (Zi L (Zl hL) w hw h1) rfl rfl rfl rfl rfl rfl) ?_
 refine zaa 1 rfl ?_
 refine zab ?_
 refine zae ?_
 refine qg [([], []), ([], []), ([], []), ([0], []), ([1], []), ([], []), ([], []), ([], []), ([], []), ([0], []), ([1], []), ([], [])] qU (by kernel_rfl) ?_
 refine zag rfl rfl (zal (.inl rfl) (ev1 rfl)) ?_
 refine zag rfl rfl (qw rfl (ev1 rfl) (fun s v h => by cases h; exact ⟨_, rfl⟩)) ?_
 refine zag rfl rfl (qa rfl vH (ev1 rfl)) ?_
 refine zag rfl rfl (zaq rfl gj (ev1 rfl) rfl rfl) ?_
 refine zag rfl rfl (zai [] [1] [] rfl (ev1 rfl) (ec (ev1 rfl) en) rfl rfl (xT (L.drop w) (0)) rfl rfl rfl rfl rfl rfl) ?_
 refine zag rfl rfl (qv rfl (ev1 rfl) (ev1 rfl)) ?_
 refine zag rfl rfl (zal (.inl rfl) (ev1 rfl)) ?_
 refine zag rfl rfl (qw rfl (ev1 rfl) (fun s v h => by cases h; exact ⟨_, rfl⟩)) ?_
 refine zag rfl rfl (qa rfl vH (ev1 rfl)) ?_
 refine zag rfl rfl (zaq rfl gj (ev1 rfl) rfl rfl) ?_
 refine zag rfl rfl (zai [] [1] [] rfl (ev1 rfl) (ec (ev1 rfl) en) rfl rfl (xT (L.drop w) (0)) rfl rfl rfl rfl rfl rfl) ?_
 refine zag rfl rfl (zai [] [] [] rfl (ev1 rfl) (ec (ev1 rfl) (ec (ev1 rfl) en)) rfl rfl (uQ _ _ (rfl)) rfl rfl rfl rfl rfl rfl) ?_
 refine qp ?_
 refine zah ?_
 refine zaa 2 rfl ?_
 refine zab ?_
 refine qb ?_
 refine qY [0, 1] (rs1 rfl (qJ rfl)) rfl rfl ?_ ⟨rfl, rfl, trivial⟩
 rfl
theorem Zs (o : OpM) (L : List Int) (hL : okL L) (w : Nat) (hw : 1 ≤ w ∧ w ≤ 8) (e : Int) (h : tN w L = .err e) : DPan Tryz.prog 119 [.loc 0 0, .val (.int .i64 (w : Int))] [.mix 178 (.loc 1 0 :: opD o), .mix 206 [.slf 1 (L).length ((L).flatMap uc8), .val (.int .i64 0)]] (.ifc 203 (.val (.agg #[.int .i64 e]))) [.mix 178 (.loc 1 0 :: opD o), .mix 206 [.slf 1 (L).length ((L).flatMap uc8), .val (.int .i64 e)]] := by
 refine zap (N := 25) 2 (by kernel_rfl) Tryz.func119 rfl rfl rfl (by simp only [fr0, qau, qaw]; exact rfl) rfl fun s0 hs0 => ?_
 refine zae ?_
 obtain ⟨h1, rfl⟩ := UF h
 refine zac ?_
 refine zaa 1 rfl ?_
 refine zab ?_
 refine zah ?_
 refine zaa 1 rfl ?_
 refine za rfl (qw rfl (ev1 rfl) (fun s v h => by cases h; exact ⟨_, rfl⟩)) ?_
 refine za rfl (qa rfl vH (ev1 rfl)) ?_
 refine za rfl (zaq rfl gj (ev1 rfl) rfl rfl) ?_
 refine zaa 1 rfl ?_
 refine zaj rfl (zai [1] [] [] rfl (ev1 rfl) (ec (ev1 rfl) (ec (ev1 rfl) en)) rfl rfl (Uy L w hw h1) rfl rfl rfl rfl rfl rfl) ?_
 refine zaa 1 rfl ?_
 refine zab ?_
 refine zae ?_
 refine yz 11 [([], []), ([], []), ([], []), ([0], []), ([1], []), ([], []), ([], []), ([], []), ([], []), ([0], []), ([1], [])] qU (by kernel_rfl) rfl rfl ?_
 refine zag rfl rfl (zal (.inl rfl) (ev1 rfl)) ?_
 refine zag rfl rfl (qw rfl (ev1 rfl) (fun s v h => by cases h; exact ⟨_, rfl⟩)) ?_
 refine zag rfl rfl (qa rfl vH (ev1 rfl)) ?_
 refine zag rfl rfl (zaq rfl gj (ev1 rfl) rfl rfl) ?_
 refine zag rfl rfl (zai [] [1] [] rfl (ev1 rfl) (ec (ev1 rfl) en) rfl rfl (xT (L) (110)) rfl rfl rfl rfl rfl rfl) ?_
 refine zag rfl rfl (qv rfl (ev1 rfl) (ev1 rfl)) ?_
 refine zag rfl rfl (zal (.inl rfl) (ev1 rfl)) ?_
 refine zag rfl rfl (qw rfl (ev1 rfl) (fun s v h => by cases h; exact ⟨_, rfl⟩)) ?_
 refine zag rfl rfl (qa rfl vH (ev1 rfl)) ?_
 refine zag rfl rfl (zaq rfl gj (ev1 rfl) rfl rfl) ?_
 refine zag rfl rfl (zai [] [1] [] rfl (ev1 rfl) (ec (ev1 rfl) en) rfl rfl (xT (L) (110)) rfl rfl rfl rfl rfl rfl) ?_
 refine qp ⟨_, _, _, rfl, qE [] [] [] rfl (ev1 rfl) (ec (ev1 rfl) (ec (ev1 rfl) en)) rfl rfl (GN _ _ (rfl)) rfl rfl rfl rfl rfl rfl, ?_⟩
 refine K3 [0, 1] rfl rfl ?_ ⟨rfl, rfl, trivial⟩
 rfl
end Go.Proofs.YtofklkbfkoliiaaGreat
