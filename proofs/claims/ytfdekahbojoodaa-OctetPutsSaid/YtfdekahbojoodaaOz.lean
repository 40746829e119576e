/- the law of parts, walked -/
import Derived.Test.YtfdekahbojoodaaOy
import Derived.Test.YtfdekahbojoodaaLz
namespace Go.Proofs.Ytfdekahbojoodaa
set_option linter.unusedVariables false
set_option linter.unusedSimpArgs false
open Go.RowKit

set_option maxRecDepth 4000 in
set_option maxHeartbeats 1000000 in
theorem rerr_v (L : List Int) (e : Int) : DFun Try.prog 35 [.dpm [.slf 1 (L).length ((L).flatMap uc8), .val (.int .i64 e)]] [] (.val (.int .i64 e)) [] := by
  refine dcalls_go (N := 10) 0 (by kernel_rfl) Try.func35 rfl rfl rfl (by simp only [fr0, Nat.zero_add, Nat.reduceAdd]; exact rfl) rfl fun s0 hs0 => ?_
  refine dwp_seq ?_
  refine dwp_region ?_
  refine walk_r rfl rfl rfl (op_move (.inr rfl) (ev1 rfl)) ?_
  refine walk_nil ?_
  refine dwp_seq ?_
  refine dwp_seq ?_
  refine dwp_region ?_
  refine walk_r rfl rfl rfl (op_move (.inl rfl) (ev1 rfl)) ?_
  refine walk_r rfl rfl rfl (op_pnilm rfl pt56 (ev1 rfl)) ?_
  refine walk_nil ?_
  refine dwp_if_f rfl (rfl) ?_
  refine dwp_skip ?_
  refine dwp_seq ?_
  refine dwp_region ?_
  refine walk_r rfl rfl rfl (op_move (.inl rfl) (ev1 rfl)) ?_
  refine walk_r rfl rfl rfl (op_nc rfl (ev1 rfl) (fun s v h => by cases h; exact ⟨_, rfl⟩)) ?_
  refine walk_r rfl rfl rfl (op_fadm rfl fo77_0 (ev1 rfl)) ?_
  refine walk_r rfl rfl rfl (op_fadm rfl fo74_1 (ev1 rfl)) ?_
  refine walk_r rfl rfl rfl (op_lddm rfl tb29 (ev1 rfl) rfl) ?_
  refine walk_r rfl rfl rfl (op_move (.inr rfl) (ev1 rfl)) ?_
  refine walk_nil ?_
  refine dwp_ret ?_
  refine kend0 (rs1 rfl (rv_t rfl)) rfl ?_
  rfl

def cut40 (p : List Int) : List Int := p.take (min p.length 40)
theorem cut40_len (p : List Int) : (cut40 p).length ≤ 40 := by rw [cut40, List.length_take]; omega
def partB (p : List Int) : List Int := bytesN 2 (cut40 p).length ++ cut40 p
theorem partB_len (p : List Int) : (partB p).length = 2 + (cut40 p).length := by rw [partB, List.length_append, bytesN_len (by omega)]
def catP (ps : List (List Int)) : List Int := ps.flatMap partB
theorem catP_succ {ps : List (List Int)} {k : Nat} (h : k < ps.length) : catP (ps.take (k + 1)) = catP (ps.take k) ++ partB ps[k] := by
  rw [catP, catP, List.take_succ_eq_append_getElem h, List.flatMap_append]; simp
theorem catP_drop {ps : List (List Int)} {k : Nat} (h : k < ps.length) : catP (ps.drop k) = partB ps[k] ++ catP (ps.drop (k + 1)) := by
  rw [catP, catP, List.drop_eq_getElem_cons h, List.flatMap_cons]
theorem catP_len : ∀ ps : List (List Int), (catP ps).length ≤ 42 * ps.length
  | [] => by simp [catP]
  | p :: ps => by
    have h1 := catP_len ps
    have h2 := partB_len p
    have h3 := cut40_len p
    rw [catP, List.flatMap_cons, List.length_append, List.length_cons]
    rw [catP] at h1
    omega
theorem catP_cat (ps : List (List Int)) (k : Nat) : (catP (ps.take k)).length + (catP (ps.drop k)).length = (catP ps).length := by
  rw [← List.length_append, catP, catP, ← List.flatMap_append, List.take_append_drop]; rfl
theorem numN_part (p r : List Int) : numN 2 (partB p ++ r) = ((cut40 p).length : Int) := by
  have h := cut40_len p
  rw [partB, List.append_assoc]
  exact numN_bytes _ (by omega) (by omega) (fits2 (by omega))
theorem numN_cutp (p r : List Int) {n : Nat} (h : 2 ≤ n) : numN 2 ((partB p ++ r).take n) = ((cut40 p).length : Int) := by
  rw [← numN_part p r, numN, numN, List.take_take, Nat.min_eq_left h]
theorem res_mono {P : Program} {f : FuncId} {args : List D} {Min Mout : List Blk} {d d' : D} (hm : ∀ (s : St) v, Rep s d v → Rep s d' v) (h : DFun P f args Min d Mout) : DFun P f args Min d' Mout := by
  refine ⟨h.1, fun s vs hok hM hr => (h.2 s vs hok hM hr).mono ?_⟩
  rintro q w' ⟨s', rfl, ht, hor⟩
  rcases hor with ⟨d0, v, rfl, hrep, ⟨rfl, hMo⟩⟩ | ⟨d0, v, _, _, hf⟩
  · exact ⟨s', rfl, ht, .inl ⟨_, v, rfl, hm _ _ hrep, rfl, hMo⟩⟩
  · exact hf.elim
abbrev rdB (l : List Int) (e : Int) : Blk := .mix 77 [.slf 1 l.length (l.flatMap uc8), .val (.int .i64 e)]
abbrev rB (l : List Int) : D := .slf 1 l.length (l.flatMap uc8)
theorem rpart_cat (p r : List Int) (hr : r.length ≤ 1000000) : DFun Try.prog 34 [.loc 0 0] [rdB (partB p ++ r) 0] (rB (cut40 p)) [rdB r 0] := by
  have h1 := partB_len p
  have h2 := cut40_len p
  have h := rpart_d (partB p ++ r) (by rw [List.length_append]; omega) (cut40 p).length (numN_part p r) (by rw [List.length_append]; omega)
  have e : (partB p ++ r).drop 2 = cut40 p ++ r := by rw [partB, List.append_assoc, List.drop_left' (bytesN_len (by omega))]
  rw [e, List.take_left' rfl, List.drop_left' rfl] at h
  exact h
/-- .. of less than all of it -/
theorem rpart_cut (p r : List Int) (n : Nat) (hr : r.length ≤ 1000000) : DFun Try.prog 34 [.loc 0 0] [rdB ((partB p ++ r).take n) 0] (rB (if (partB p).length ≤ n then cut40 p else []))
    [rdB (if (partB p).length ≤ n then r.take (n - (partB p).length) else (partB p ++ r).take n) (if (partB p).length ≤ n then 0 else 110)] := by
  have h1 := partB_len p
  have h2 := cut40_len p
  by_cases h : (partB p).length ≤ n
  · rw [if_pos h, if_pos h, if_pos h]
    have e : (partB p ++ r).take n = partB p ++ r.take (n - (partB p).length) := by rw [List.take_append, List.take_of_length_le h]
    rw [e]
    exact rpart_cat p _ (by rw [List.length_take]; omega)
  · rw [if_neg h, if_neg h, if_neg h]
    have hl : ((partB p ++ r).take n).length = n := by rw [List.length_take, List.length_append]; omega
    refine res_mono (fun s v hv => rep_nils 1 hv) ?_
    by_cases h3 : n < 2
    · exact rpart_no _ (by omega)
    · exact rpart_torn _ (by omega) (cut40 p).length (numN_cutp p r (by omega)) (by omega) (by omega) (by omega)
/-- how far one is, in less than all -/
def PInv (ps : List (List Int)) (c k : Nat) (L : List Int) (e : Int) (W : Nat) : Prop :=
  k ≤ ps.length ∧ ((e = 0 ∧ W = k ∧ (catP (ps.take k)).length ≤ c ∧ L = (catP (ps.drop k)).take (c - (catP (ps.take k)).length)) ∨ (e = 110 ∧ W < k))
theorem pinv_end {ps : List (List Int)} {c k : Nat} {L : List Int} {e : Int} {W : Nat} (h : PInv ps c k L e W) (hk : ps.length ≤ k) (hc : c < (catP ps).length) : e = 110 ∧ W < ps.length := by
  obtain ⟨h1, h2 | h2⟩ := h
  · have := h2.2.2.1
    rw [List.take_of_length_le hk] at this
    omega
  · exact ⟨h2.1, by omega⟩
theorem pinv_go {ps : List (List Int)} {c k : Nat} {L : List Int} {W : Nat} (h : PInv ps c k L 0 W) (hk : k < ps.length) (hn : (partB ps[k]).length ≤ c - (catP (ps.take k)).length) : PInv ps c (k + 1) ((catP (ps.drop (k + 1))).take (c - (catP (ps.take k)).length - (partB ps[k]).length)) 0 (W + 1) := by
  obtain ⟨h1, h2 | h2⟩ := h
  · have hs : (catP (ps.take (k + 1))).length = (catP (ps.take k)).length + (partB ps[k]).length := by rw [catP_succ hk, List.length_append]
    have h3 := h2.2.2.1
    refine ⟨by omega, .inl ⟨rfl, by omega, by omega, ?_⟩⟩
    rw [hs, Nat.sub_sub]
  · exact absurd h2.1 (by decide)
theorem pinv_bad {ps : List (List Int)} {c k : Nat} {L L' : List Int} {W : Nat} (h : PInv ps c k L 0 W) (hk : k < ps.length) : PInv ps c (k + 1) L' 110 W := by
  obtain ⟨h1, h2 | h2⟩ := h
  · exact ⟨by omega, .inr ⟨rfl, by omega⟩⟩
  · exact absurd h2.1 (by decide)
theorem pinv_stay {ps : List (List Int)} {c k : Nat} {L : List Int} {e : Int} {W : Nat} (h : PInv ps c k L e W) (hk : k < ps.length) (he : e ≠ 0) : PInv ps c (k + 1) L e W := by
  obtain ⟨h1, h2 | h2⟩ := h
  · exact absurd h2.1 he
  · exact ⟨by omega, .inr ⟨h2.1, by omega⟩⟩
theorem u64_nonneg (z : Int) : 0 ≤ IntKind.u64.wrap z := by rw [IntKind.wrap_u64]; omega

set_option maxRecDepth 4000 in
set_option maxHeartbeats 1000000 in
theorem parts_d (l : List (List Int)) (cut : Int) : DFun Try.prog 7 [.slm 1 l.length (l.flatMap fun p => [rB p]), .val (.int .i64 cut)] [] (.val (.bool true)) [] := by
  refine dcalls_go (N := 122) 0 (by kernel_rfl) Try.func7 rfl rfl rfl (by simp only [fr0, Nat.zero_add, Nat.reduceAdd]; exact rfl) rfl fun s0 hs0 => ?_
  refine dwp_lenm (t := 0) rfl fun hl0 hL0 => ?_
  refine dwp_seq ?_
  refine dwp_region ?_
  refine walk_r rfl rfl rfl (op_move (.inr rfl) (ev1 rfl)) ?_
  refine walk_nil ?_
  refine dwp_seq ?_
  refine dwp_seq ?_
  refine dwp_region ?_
  refine walk_r rfl rfl rfl (dop_call [] [] [] rfl (ev1 rfl) en rfl rfl (wakes_d) rfl rfl rfl rfl rfl rfl) ?_
  refine walk_r rfl rfl rfl (op_not rfl (ev1 rfl)) ?_
  refine walk_nil ?_
  refine dwp_if_f rfl (rfl) ?_
  refine dwp_skip ?_
  refine dwp_seq ?_
  refine dwp_region ?_
  refine walk_r rfl rfl rfl (op_move (.inl rfl) (ev1 rfl)) ?_
  refine walk_r rfl rfl rfl (op_move (.inl rfl) (ev1 rfl)) ?_
  refine walk_r rfl rfl rfl (op_lenm rfl sl63 (ev1 rfl)) ?_
  refine walk_r rfl rfl rfl (op_min rfl (ev1 rfl) (ev1 rfl)) ?_
  refine walk_r rfl rfl rfl (op_slmtk (j := min l.length 6) rfl sl63 (ev1 rfl) (bd_some (ev1 rfl)) (fun _ => by omega) (fun _ => by omega) (fun _ => rfl)) ?_
  refine walk_r rfl rfl rfl (op_move (.inr rfl) (ev1 rfl)) ?_
  refine walk_nil ?_
  refine dwp_seq ?_
  obtain ⟨ps, hps⟩ : ∃ q, q = l.take (min l.length 6) := ⟨_, rfl⟩
  rw [← hps]
  have lp : ps.length ≤ 6 := by rw [hps, List.length_take]; omega
  refine dwp_region ?_
  refine walk_r rfl rfl rfl (op_move (.inr rfl) (ev1 rfl)) ?_
  refine walk_nil ?_
  refine dwp_seq ?_
  refine dwp_seq ?_
  refine dwp_region ?_
  refine walk_r rfl rfl rfl (op_move (.inl rfl) (ev1 rfl)) ?_
  refine walk_r rfl rfl rfl (op_lenm rfl sl63 (ev1 rfl)) ?_
  refine walk_r rfl rfl rfl (op_move (.inl rfl) (ev1 rfl)) ?_
  refine walk_nil ?_
  refine dwp_block ?_
  refine dwp_nils 5 1 rfl ?_
  refine dwp_loopS ⟨hs0, rfl⟩ (α := Nat) (fun k => [(5, .slf 1 (catP (ps.take k)).length ((catP (ps.take k)).flatMap uc8)), (25, .val (.int .i64 (k : Int)))]) [(0, _), (1, _), (23, _), (24, _)] (fun k => []) [] (fun k => k ≤ ps.length) (fun k => ps.length - k) 0 [] (by simp) rfl ⟨rfl, rfl, rfl, rfl, trivial⟩ ⟨rfl, rfl, trivial⟩ trivial ?_
  intro k hx
  simp only [upd, List.set_cons_zero, List.set_cons_succ, List.cons_append, List.nil_append]
  have hk := hx
  have hcl := catP_len (ps.take k)
  rw [List.length_take] at hcl
  refine dwp_seq ?_
  refine dwp_region ?_
  refine walk_r rfl rfl rfl (op_lss rfl (ev1 rfl) (ev1 rfl)) ?_
  refine walk_nil ?_
  refine dwp_seq ?_
  refine dwp_cond rfl (fun c2 => ?_) (fun c2 => ?_)
  · try simp only [decide_eq_true_eq, decide_eq_false_iff_not, beq_iff_eq, bne_iff_ne, beq_eq_false_iff_ne, bne_eq_false_iff_eq, Bool.not_eq_true', Bool.not_eq_false', Bool.and_eq_true, Bool.or_eq_true, Bool.or_eq_false_iff, ne_eq, Decidable.not_not, Int.not_lt, Int.not_le] at c2
    refine dwp_skip ?_
    refine dwp_seq ?_
    refine dwp_block ?_
    refine dwp_seq ?_
    refine dwp_region ?_
    refine walk_r rfl rfl rfl (op_ixm (k) rfl sl63 (ev1 rfl) (ev1 rfl) (fun _ => rfl) (flat1_at (by omega))) ?_
    refine walk_r rfl rfl rfl (op_lddm rfl tb22 (ev1 rfl) rfl) ?_
    refine walk_r rfl rfl rfl (op_move (.inr rfl) (ev1 rfl)) ?_
    refine walk_nil ?_
    refine dwp_seq ?_
    refine dwp_region ?_
    refine walk_r rfl rfl rfl (op_move (.inl rfl) (ev1 rfl)) ?_
    refine walk_r rfl rfl rfl (op_move (.inl rfl) (ev1 rfl)) ?_
    refine walk_r rfl rfl rfl (op_len rfl sl22 (ev1 rfl)) ?_
    refine walk_r rfl rfl rfl (op_min rfl (ev1 rfl) (ev1 rfl)) ?_
    refine walk_r rfl rfl rfl (op_sltk (j := min ps[k].length 40) rfl sl22 (ev1 rfl) (bd_some (ev1 rfl)) (fun _ => by omega) (fun _ => by omega) (fun _ => rfl)) ?_
    refine walk_r rfl rfl rfl (op_move (.inr rfl) (ev1 rfl)) ?_
    refine walk_nil ?_
    refine dwp_seq ?_
    have hq := cut40_len ps[k]
    have hq2 : (ps[k].take (min ps[k].length 40)).length = (cut40 ps[k]).length := rfl
    have hb2 := bytesN_len (w := 2) (n := ((cut40 ps[k]).length : Int)) (by omega)
    refine dwp_region ?_
    refine walk_r rfl rfl rfl (op_move (.inl rfl) (ev1 rfl)) ?_
    refine walk_r rfl rfl rfl (op_move (.inl rfl) (ev1 rfl)) ?_
    refine walk_r rfl rfl rfl (dop_call [] [] [] rfl (ev1 rfl) (ec (ev1 rfl) (ec (ev1 rfl) en)) rfl rfl (part_ok (catP (ps.take k)) (cut40 ps[k]) (by omega) (by omega)) rfl rfl rfl rfl rfl rfl) ?_
    refine walk_r rfl rfl rfl (op_move (.inl rfl) (ev1 rfl)) ?_
    refine walk_r rfl rfl rfl (op_ext rfl (ev1 rfl) rfl) ?_
    refine walk_r rfl rfl rfl (op_ext rfl (ev1 rfl) rfl) ?_
    refine walk_r rfl rfl rfl (op_move (.inr rfl) (ev1 rfl)) ?_
    refine walk_r rfl rfl rfl (op_move (.inr rfl) (ev1 rfl)) ?_
    refine walk_nil ?_
    refine dwp_seq ?_
    refine dwp_seq ?_
    refine dwp_region ?_
    refine walk_r rfl rfl rfl (op_move (.inl rfl) (ev1 rfl)) ?_
    refine walk_r rfl rfl rfl (op_neq rfl (ev1 rfl) (ev1 rfl)) ?_
    refine walk_r rfl rfl rfl (op_move (.inl rfl) (ev1 rfl)) ?_
    refine walk_gr (gd_f rfl rfl rfl) rfl rfl rfl (op_move (.inl rfl) (ev1 rfl)) ?_
    refine walk_gr (gd_f rfl rfl rfl) rfl rfl rfl (op_len rfl sl22 (ev2 rfl)) ?_
    refine walk_gr (gd_f rfl rfl rfl) rfl rfl rfl (op_move (.inl rfl) (ev1 rfl)) ?_
    refine walk_gr (gd_f rfl rfl rfl) rfl rfl rfl (op_len rfl sl22 (ev2 rfl)) ?_
    refine walk_gr (gd_f rfl rfl rfl) rfl rfl rfl (op_add' rfl (ev2 rfl) (ev1 rfl) (fun hp => IntWalk.i64_in _ (by first | omega | (simp at hp; omega)))) ?_
    refine walk_gr (gd_f rfl rfl rfl) rfl rfl rfl (op_move (.inl rfl) (ev1 rfl)) ?_
    refine walk_gr (gd_f rfl rfl rfl) rfl rfl rfl (op_len rfl sl22 (ev2 rfl)) ?_
    refine walk_gr (gd_f rfl rfl rfl) rfl rfl rfl (op_add' rfl (ev2 rfl) (ev2 rfl) (fun hp => IntWalk.i64_in _ (by first | omega | (simp at hp; omega)))) ?_
    refine walk_gr (gd_f rfl rfl rfl) rfl rfl rfl (op_neq rfl (ev2 rfl) (ev2 rfl)) ?_
    refine walk_r rfl rfl rfl (op_or rfl (ev1 rfl) (ev3 rfl id)) ?_
    refine walk_nil ?_
    refine dwp_if_f rfl (by simp [hb2, hq2]; omega) ?_
    refine dwp_skip ?_
    refine dwp_region ?_
    refine walk_r rfl rfl rfl (op_move (.inl rfl) (ev1 rfl)) ?_
    refine walk_r rfl rfl rfl (op_move (.inr rfl) (ev1 rfl)) ?_
    refine walk_nil ?_
    refine dwp_region ?_
    refine walk_r rfl rfl rfl (op_add' rfl (ev1 rfl) (ev1 rfl) (fun _ => IntWalk.i64_in _ (by omega))) ?_
    refine walk_r rfl rfl rfl (op_move (.inl rfl) (ev1 rfl)) ?_
    refine walk_nil ?_
    refine ⟨k + 1, [], by omega, by simp only []; omega, rfl, ⟨by rw [catP_succ (by omega), partB, ← List.append_assoc]; rfl, rfl, rfl, rfl, rfl, rfl, trivial⟩, trivial⟩
  · try simp only [decide_eq_true_eq, decide_eq_false_iff_not, beq_iff_eq, bne_iff_ne, beq_eq_false_iff_ne, bne_eq_false_iff_eq, Bool.not_eq_true', Bool.not_eq_false', Bool.and_eq_true, Bool.or_eq_true, Bool.or_eq_false_iff, ne_eq, Decidable.not_not, Int.not_lt, Int.not_le] at c2
    refine dwp_exit ?_
    refine dwp_seq ?_
    obtain rfl : k = ps.length := by omega
    rw [List.take_length]
    have hcl := catP_len ps
    refine dwp_holes 1 (by simp only [holes, List.cons_append, List.nil_append]; exact rfl) ?_
    refine dwp_region ?_
    refine walk_r rfl rfl rfl (op_move (.inl rfl) (ev1 rfl)) ?_
    refine walk_w rfl rfl rfl (dop_call [] [] [0] rfl (ev1 rfl) (ec (ev1 rfl) en) rfl rfl (open_d (catP ps) (by omega)) rfl rfl rfl rfl rfl rfl) (by simp only [upd, List.set_cons_zero, List.set_cons_succ]; exact rfl) ?_
    refine walk_r rfl rfl rfl (op_move (.inl rfl) (ev1 rfl)) ?_
    refine walk_r rfl rfl rfl (op_ext rfl (ev1 rfl) rfl) ?_
    refine walk_r rfl rfl rfl (op_ext rfl (ev1 rfl) rfl) ?_
    refine walk_r rfl rfl rfl (op_move (.inr rfl) (ev1 rfl)) ?_
    refine walk_r rfl rfl rfl (op_move (.inr rfl) (ev1 rfl)) ?_
    refine walk_nil ?_
    refine dwp_seq ?_
    refine dwp_seq ?_
    refine dwp_region ?_
    refine walk_r rfl rfl rfl (op_move (.inl rfl) (ev1 rfl)) ?_
    refine walk_r rfl rfl rfl (op_neq rfl (ev1 rfl) (ev1 rfl)) ?_
    refine walk_nil ?_
    refine dwp_if_f rfl (rfl) ?_
    refine dwp_skip ?_
    refine dwp_seq ?_
    refine dwp_seq ?_
    refine dwp_region ?_
    refine walk_r rfl rfl rfl (op_move (.inl rfl) (ev1 rfl)) ?_
    refine walk_r rfl rfl rfl (op_lenm rfl sl63 (ev1 rfl)) ?_
    refine walk_r rfl rfl rfl (op_move (.inl rfl) (ev1 rfl)) ?_
    refine walk_nil ?_
    refine dwp_block ?_
    refine dwp_loopS ⟨hs0, rfl⟩ (α := Nat) (fun k => [(64, .val (.int .i64 (k : Int)))]) [(0, _), (1, _), (5, _), (10, _), (62, _), (63, _)] (fun k => [(0, .mix 77 [.slf 1 (catP (ps.drop k)).length ((catP (ps.drop k)).flatMap uc8), .val (.int .i64 0)])]) [.hole] (fun k => k ≤ ps.length) (fun k => ps.length - k) 0 [0] (by simp) rfl ⟨rfl, rfl, rfl, rfl, rfl, rfl, trivial⟩ ⟨rfl, trivial⟩ ⟨rfl, trivial⟩ ?_
    intro k hx
    simp only [upd, List.set_cons_zero, List.set_cons_succ, List.cons_append, List.nil_append]
    have hk := hx
    have hcc := catP_cat ps (k + 1)
    refine dwp_seq ?_
    refine dwp_region ?_
    refine walk_r rfl rfl rfl (op_lss rfl (ev1 rfl) (ev1 rfl)) ?_
    refine walk_nil ?_
    refine dwp_seq ?_
    refine dwp_cond rfl (fun c5 => ?_) (fun c5 => ?_)
    · try simp only [decide_eq_true_eq, decide_eq_false_iff_not, beq_iff_eq, bne_iff_ne, beq_eq_false_iff_ne, bne_eq_false_iff_eq, Bool.not_eq_true', Bool.not_eq_false', Bool.and_eq_true, Bool.or_eq_true, Bool.or_eq_false_iff, ne_eq, Decidable.not_not, Int.not_lt, Int.not_le] at c5
      refine dwp_skip ?_
      refine dwp_seq ?_
      refine dwp_block ?_
      refine dwp_seq ?_
      refine dwp_region ?_
      refine walk_r rfl rfl rfl (op_ixm (k) rfl sl63 (ev1 rfl) (ev1 rfl) (fun _ => rfl) (flat1_at (by omega))) ?_
      refine walk_r rfl rfl rfl (op_lddm rfl tb22 (ev1 rfl) rfl) ?_
      refine walk_r rfl rfl rfl (op_move (.inr rfl) (ev1 rfl)) ?_
      refine walk_nil ?_
      refine dwp_seq ?_
      rw [catP_drop (show k < ps.length by omega)]
      refine dwp_draw [([], []), ([0], [0]), ([], []), ([], []), ([], []), ([], []), ([], []), ([], []), ([], [])] mixed (by kernel_rfl) ?_
      refine lex_r rfl rfl (op_move (.inl rfl) (ev1 rfl)) ?_
      refine lex_w rfl rfl (dop_call [0] [] [] rfl (ev1 rfl) (ec (ev1 rfl) en) rfl rfl (rpart_cat ps[k] (catP (ps.drop (k + 1))) (by omega)) rfl rfl rfl rfl rfl rfl) rfl (by simp only [upd, List.set_cons_zero, List.set_cons_succ]; exact rfl) ?_
      refine lex_r rfl rfl (op_move (.inl rfl) (ev1 rfl)) ?_
      refine lex_r rfl rfl (op_move (.inl rfl) (ev1 rfl)) ?_
      refine lex_r rfl rfl (op_len rfl sl22 (ev1 rfl)) ?_
      refine lex_r rfl rfl (op_min rfl (ev1 rfl) (ev1 rfl)) ?_
      refine lex_r rfl rfl (op_sltk (j := min ps[k].length 40) rfl sl22 (ev1 rfl) (bd_some (ev1 rfl)) (fun _ => by omega) (fun _ => by omega) (fun _ => rfl)) ?_
      refine lex_r rfl rfl (dop_call [] [] [] rfl (ev1 rfl) (ec (ev1 rfl) (ec (ev1 rfl) en)) rfl rfl (equalB (cut40 ps[k]) (cut40 ps[k])) rfl rfl rfl rfl rfl rfl) ?_
      refine lex_r rfl rfl (op_not rfl (ev1 rfl)) ?_
      refine lex_nil ?_
      refine dwp_if_f rfl (by simp) ?_
      refine dwp_skip ?_
      refine dwp_region ?_
      refine walk_r rfl rfl rfl (op_add' rfl (ev1 rfl) (ev1 rfl) (fun _ => IntWalk.i64_in _ (by omega))) ?_
      refine walk_r rfl rfl rfl (op_move (.inl rfl) (ev1 rfl)) ?_
      refine walk_nil ?_
      refine ⟨k + 1, [0], by omega, by simp only []; omega, rfl, ⟨rfl, rfl, rfl, rfl, rfl, rfl, rfl, trivial⟩, ⟨rfl, trivial⟩⟩
    · try simp only [decide_eq_true_eq, decide_eq_false_iff_not, beq_iff_eq, bne_iff_ne, beq_eq_false_iff_ne, bne_eq_false_iff_eq, Bool.not_eq_true', Bool.not_eq_false', Bool.and_eq_true, Bool.or_eq_true, Bool.or_eq_false_iff, ne_eq, Decidable.not_not, Int.not_lt, Int.not_le] at c5
      refine dwp_exit ?_
      refine dwp_seq ?_
      refine dwp_seq ?_
      obtain rfl : k = ps.length := by omega
      rw [show catP (ps.drop ps.length) = [] by rw [List.drop_length]; rfl]
      refine dwp_region ?_
      refine walk_r rfl rfl rfl (op_move (.inl rfl) (ev1 rfl)) ?_
      refine walk_w rfl rfl rfl (dop_call [0] [] [] rfl (ev1 rfl) (ec (ev1 rfl) en) rfl rfl (end_d [] 0) rfl rfl rfl rfl rfl rfl) (by simp only [upd, List.set_cons_zero, List.set_cons_succ]; exact rfl) ?_
      refine walk_r rfl rfl rfl (op_neq rfl (ev1 rfl) (ev1 rfl)) ?_
      refine walk_nil ?_
      refine dwp_if_f rfl (by simp) ?_
      refine dwp_skip ?_
      refine dwp_seq ?_
      refine dwp_seq ?_
      refine dwp_region ?_
      refine walk_r rfl rfl rfl (op_move (.inl rfl) (ev1 rfl)) ?_
      refine walk_r rfl rfl rfl (op_len rfl sl22 (ev1 rfl)) ?_
      refine walk_r rfl rfl rfl (op_eql rfl (ev1 rfl) (ev1 rfl)) ?_
      refine walk_nil ?_
      refine dwp_cond rfl (fun c8 => ?_) (fun c8 => ?_)
      · try simp only [decide_eq_true_eq, decide_eq_false_iff_not, beq_iff_eq, bne_iff_ne, beq_eq_false_iff_ne, bne_eq_false_iff_eq, Bool.not_eq_true', Bool.not_eq_false', Bool.and_eq_true, Bool.or_eq_true, Bool.or_eq_false_iff, ne_eq, Decidable.not_not, Int.not_lt, Int.not_le] at c8
        refine dwp_seq ?_
        refine dwp_region ?_
        refine walk_r rfl rfl rfl (op_move (.inr rfl) (ev1 rfl)) ?_
        refine walk_nil ?_
        refine dwp_ret ?_
        refine kend0 (rs1 rfl (rv_t rfl)) rfl ?_
        first | rfl | (simp; omega)
      · try simp only [decide_eq_true_eq, decide_eq_false_iff_not, beq_iff_eq, bne_iff_ne, beq_eq_false_iff_ne, bne_eq_false_iff_eq, Bool.not_eq_true', Bool.not_eq_false', Bool.and_eq_true, Bool.or_eq_true, Bool.or_eq_false_iff, ne_eq, Decidable.not_not, Int.not_lt, Int.not_le] at c8
        have hb0 : 0 < (catP ps).length := by omega
        have hz0 := u64_nonneg cut
        have hz1 := Int.emod_nonneg (IntKind.u64.wrap cut) (show ((catP ps).length : Int) ≠ 0 by omega)
        have hz2 := Int.emod_lt_of_pos (IntKind.u64.wrap cut) (show 0 < ((catP ps).length : Int) by omega)
        obtain ⟨c, hc⟩ := Int.eq_ofNat_of_zero_le hz1
        rw [hc] at hz2
        have hcb : c < (catP ps).length := by omega
        refine dwp_skip ?_
        refine dwp_seq ?_
        refine dwp_holes 1 (by simp only [holes, List.cons_append, List.nil_append]; exact rfl) ?_
        refine dwp_region ?_
        refine walk_r rfl rfl rfl (op_move (.inl rfl) (ev1 rfl)) ?_
        refine walk_r rfl rfl rfl (op_move (.inl rfl) (ev1 rfl)) ?_
        refine walk_r rfl rfl rfl (op_conv ty3 kn66 rfl (ev1 rfl)) ?_
        refine walk_r rfl rfl rfl (op_move (.inl rfl) (ev1 rfl)) ?_
        refine walk_r rfl rfl rfl (op_len rfl sl22 (ev1 rfl)) ?_
        refine walk_r rfl rfl rfl (op_conv' ty3 kn66 rfl (ev1 rfl) (fun _ => IntWalk.u64_in _ (by omega))) ?_
        refine walk_r rfl rfl rfl (op_rem' rfl (ev1 rfl) (ev1 rfl) (fun _ => ⟨by omega, hz0⟩)) ?_
        refine walk_r rfl rfl rfl (op_conv' ty66 kn3 rfl (ev1 rfl) (fun _ => IntWalk.i64_in _ (by rw [hc]; omega))) ?_
        refine walk_r rfl rfl rfl (op_sltk (j := c) rfl sl22 (ev1 rfl) (bd_some (ev1 rfl)) (fun _ => hc) (fun _ => by omega) (fun _ => rfl)) ?_
        refine walk_w rfl rfl rfl (dop_call [] [] [1] rfl (ev1 rfl) (ec (ev1 rfl) en) rfl rfl (open_d ((catP ps).take c) (by rw [List.length_take]; omega)) rfl rfl rfl rfl rfl rfl) (by simp only [upd, List.set_cons_zero, List.set_cons_succ]; exact rfl) ?_
        refine walk_r rfl rfl rfl (op_move (.inl rfl) (ev1 rfl)) ?_
        refine walk_r rfl rfl rfl (op_ext rfl (ev1 rfl) rfl) ?_
        refine walk_r rfl rfl rfl (op_ext rfl (ev1 rfl) rfl) ?_
        refine walk_r rfl rfl rfl (op_move (.inr rfl) (ev1 rfl)) ?_
        refine walk_r rfl rfl rfl (op_move (.inr rfl) (ev1 rfl)) ?_
        refine walk_nil ?_
        refine dwp_seq ?_
        refine dwp_region ?_
        refine walk_r rfl rfl rfl (op_move (.inr rfl) (ev1 rfl)) ?_
        refine walk_nil ?_
        refine dwp_seq ?_
        refine dwp_seq ?_
        refine dwp_region ?_
        refine walk_r rfl rfl rfl (op_move (.inl rfl) (ev1 rfl)) ?_
        refine walk_r rfl rfl rfl (op_lenm rfl sl63 (ev1 rfl)) ?_
        refine walk_r rfl rfl rfl (op_move (.inl rfl) (ev1 rfl)) ?_
        refine walk_nil ?_
        refine dwp_block ?_
        refine dwp_loopS ⟨hs0, rfl⟩ (α := Nat × List Int × Int × Nat) (fun x => [(15, .val (.int .i64 (x.2.2.2 : Int))), (99, .val (.int .i64 (x.1 : Int)))]) [(0, _), (11, _), (14, _), (98, _)] (fun x => [(1, .mix 77 [.slf 1 ((x.2.1)).length (((x.2.1)).flatMap uc8), .val (.int .i64 (x.2.2.1))])]) [_, .hole] (fun x => PInv ps c x.1 x.2.1 x.2.2.1 x.2.2.2) (fun x => ps.length - x.1) (0, (catP ps).take c, 0, 0) [0, 1] (⟨by simp, .inl ⟨rfl, rfl, by simp [catP], by simp [catP]⟩⟩) rfl ⟨rfl, rfl, rfl, rfl, trivial⟩ ⟨rfl, rfl, trivial⟩ ⟨rfl, rfl, trivial⟩ ?_
        intro x hx
        simp only [upd, List.set_cons_zero, List.set_cons_succ, List.cons_append, List.nil_append]
        obtain ⟨k, L, e, W⟩ := x
        dsimp only at hx ⊢
        have hk := hx.1
        have hcc := catP_cat ps (k + 1)
        have hWk : W ≤ k := by rcases hx.2 with h | h <;> omega
        refine dwp_seq ?_
        refine dwp_region ?_
        refine walk_r rfl rfl rfl (op_lss rfl (ev1 rfl) (ev1 rfl)) ?_
        refine walk_nil ?_
        refine dwp_seq ?_
        refine dwp_cond rfl (fun c9 => ?_) (fun c9 => ?_)
        · try simp only [decide_eq_true_eq, decide_eq_false_iff_not, beq_iff_eq, bne_iff_ne, beq_eq_false_iff_ne, bne_eq_false_iff_eq, Bool.not_eq_true', Bool.not_eq_false', Bool.and_eq_true, Bool.or_eq_true, Bool.or_eq_false_iff, ne_eq, Decidable.not_not, Int.not_lt, Int.not_le] at c9
          refine dwp_skip ?_
          refine dwp_seq ?_
          refine dwp_block ?_
          refine dwp_seq ?_
          by_cases he : e = 0
          · subst he
            obtain ⟨hW, hoff, hL⟩ : W = k ∧ (catP (ps.take k)).length ≤ c ∧ L = (catP (ps.drop k)).take (c - (catP (ps.take k)).length) := by
              rcases hx.2 with h | h
              · exact h.2
              · exact absurd h.1 (by decide)
            rw [catP_drop (show k < ps.length by omega)] at hL
            rw [hL]
            refine dwp_region ?_
            refine walk_r rfl rfl rfl (op_move (.inl rfl) (ev1 rfl)) ?_
            refine walk_w rfl rfl rfl (dop_call [1] [] [] rfl (ev1 rfl) (ec (ev1 rfl) en) rfl rfl (rpart_cut ps[k] (catP (ps.drop (k + 1))) (c - (catP (ps.take k)).length) (by omega)) rfl rfl rfl rfl rfl rfl) (by simp only [upd, List.set_cons_zero, List.set_cons_succ]; exact rfl) ?_
            refine walk_nil ?_
            refine dwp_seq ?_
            refine dwp_region ?_
            refine walk_r rfl rfl rfl (op_move (.inl rfl) (ev1 rfl)) ?_
            refine walk_w rfl rfl rfl (dop_call [1] [] [] rfl (ev1 rfl) (ec (ev1 rfl) en) rfl rfl (rerr_d _ _) rfl rfl rfl rfl rfl rfl) (by simp only [upd, List.set_cons_zero, List.set_cons_succ]; exact rfl) ?_
            refine walk_r rfl rfl rfl (op_eql rfl (ev1 rfl) (ev1 rfl)) ?_
            refine walk_nil ?_
            refine dwp_cond rfl (fun hq => ?_) (fun hq => ?_)
            · have hle : (partB ps[k]).length ≤ c - (catP (ps.take k)).length := by
                by_cases h : (partB ps[k]).length ≤ c - (catP (ps.take k)).length
                · exact h
                · rw [if_neg h] at hq; simp at hq
              refine dwp_region ?_
              refine walk_r rfl rfl rfl (op_move (.inl rfl) (ev1 rfl)) ?_
              refine walk_r rfl rfl rfl (op_add' rfl (ev1 rfl) (ev1 rfl) (fun _ => IntWalk.i64_in _ (by omega))) ?_
              refine walk_r rfl rfl rfl (op_move (.inr rfl) (ev1 rfl)) ?_
              refine walk_nil ?_
              refine dwp_region ?_
              refine walk_r rfl rfl rfl (op_add' rfl (ev1 rfl) (ev1 rfl) (fun _ => IntWalk.i64_in _ (by omega))) ?_
              refine walk_r rfl rfl rfl (op_move (.inl rfl) (ev1 rfl)) ?_
              refine walk_nil ?_
              refine ⟨(k + 1, (catP (ps.drop (k + 1))).take (c - (catP (ps.take k)).length - (partB ps[k]).length), 0, W + 1), [0, 1], pinv_go hx (by omega) hle, by simp only []; omega, rfl, ⟨rfl, rfl, rfl, rfl, rfl, rfl, trivial⟩, ⟨rfl, by rw [if_pos hle, if_pos hle]; rfl, trivial⟩⟩
            · have hle : ¬ (partB ps[k]).length ≤ c - (catP (ps.take k)).length := fun h => by
                rw [if_pos h] at hq; simp at hq
              refine dwp_skip ?_
              refine dwp_region ?_
              refine walk_r rfl rfl rfl (op_add' rfl (ev1 rfl) (ev1 rfl) (fun _ => IntWalk.i64_in _ (by omega))) ?_
              refine walk_r rfl rfl rfl (op_move (.inl rfl) (ev1 rfl)) ?_
              refine walk_nil ?_
              refine ⟨(k + 1, (partB ps[k] ++ catP (ps.drop (k + 1))).take (c - (catP (ps.take k)).length), 110, W), [0, 1], pinv_bad hx (by omega), by simp only []; omega, rfl, ⟨rfl, rfl, rfl, rfl, rfl, rfl, trivial⟩, ⟨rfl, by rw [if_neg hle, if_neg hle]; rfl, trivial⟩⟩
          · refine dwp_region ?_
            refine walk_r rfl rfl rfl (op_move (.inl rfl) (ev1 rfl)) ?_
            refine walk_w rfl rfl rfl (dop_call [1] [] [] rfl (ev1 rfl) (ec (ev1 rfl) en) rfl rfl (rpart_not L e he) rfl rfl rfl rfl rfl rfl) (by simp only [upd, List.set_cons_zero, List.set_cons_succ]; exact rfl) ?_
            refine walk_nil ?_
            refine dwp_seq ?_
            refine dwp_region ?_
            refine walk_r rfl rfl rfl (op_move (.inl rfl) (ev1 rfl)) ?_
            refine walk_w rfl rfl rfl (dop_call [1] [] [] rfl (ev1 rfl) (ec (ev1 rfl) en) rfl rfl (rerr_d _ _) rfl rfl rfl rfl rfl rfl) (by simp only [upd, List.set_cons_zero, List.set_cons_succ]; exact rfl) ?_
            refine walk_r rfl rfl rfl (op_eql rfl (ev1 rfl) (ev1 rfl)) ?_
            refine walk_nil ?_
            refine dwp_if_f rfl (by simpa using he) ?_
            refine dwp_skip ?_
            refine dwp_region ?_
            refine walk_r rfl rfl rfl (op_add' rfl (ev1 rfl) (ev1 rfl) (fun _ => IntWalk.i64_in _ (by omega))) ?_
            refine walk_r rfl rfl rfl (op_move (.inl rfl) (ev1 rfl)) ?_
            refine walk_nil ?_
            refine ⟨(k + 1, L, e, W), [0, 1], pinv_stay hx (by omega) he, by simp only []; omega, rfl, ⟨rfl, rfl, rfl, rfl, rfl, rfl, trivial⟩, ⟨rfl, rfl, trivial⟩⟩
        · try simp only [decide_eq_true_eq, decide_eq_false_iff_not, beq_iff_eq, bne_iff_ne, beq_eq_false_iff_ne, bne_eq_false_iff_eq, Bool.not_eq_true', Bool.not_eq_false', Bool.and_eq_true, Bool.or_eq_true, Bool.or_eq_false_iff, ne_eq, Decidable.not_not, Int.not_lt, Int.not_le] at c9
          refine dwp_exit ?_
          refine dwp_seq ?_
          obtain ⟨rfl, hwl⟩ := pinv_end hx (by omega) hcb
          refine dwp_region ?_
          refine walk_r rfl rfl rfl (op_move (.inl rfl) (ev1 rfl)) ?_
          refine walk_r rfl rfl rfl (op_eql rfl (ev1 rfl) (ev1 rfl)) ?_
          refine walk_r rfl rfl rfl (op_move (.inl rfl) (ev1 rfl)) ?_
          refine walk_gr (gd_t rfl rfl rfl) rfl rfl rfl (op_move (.inl rfl) (ev1 rfl)) ?_
          refine walk_gr (gd_t rfl rfl rfl) rfl rfl rfl (dop_call [] [1] [] rfl (ev1 rfl) (ec (ev2 rfl) en) rfl rfl (rerr_v _ _) rfl rfl rfl rfl rfl rfl) ?_
          refine walk_gr (gd_t rfl rfl rfl) rfl rfl rfl (op_eql rfl (ev2 rfl) (ev1 rfl)) ?_
          refine walk_r rfl rfl rfl (op_and rfl (ev1 rfl) (ev3 rfl id)) ?_
          refine walk_r rfl rfl rfl (op_move (.inl rfl) (ev1 rfl)) ?_
          refine walk_gr (gd_t rfl rfl rfl) rfl rfl rfl (op_move (.inl rfl) (ev1 rfl)) ?_
          refine walk_gr (gd_t rfl rfl rfl) rfl rfl rfl (op_move (.inl rfl) (ev1 rfl)) ?_
          refine walk_gr (gd_t rfl rfl rfl) rfl rfl rfl (op_lenm rfl sl63 (ev2 rfl)) ?_
          refine walk_gr (gd_t rfl rfl rfl) rfl rfl rfl (op_lss rfl (ev2 rfl) (ev2 rfl)) ?_
          refine walk_r rfl rfl rfl (op_and rfl (ev1 rfl) (ev3 rfl id)) ?_
          refine walk_r rfl rfl rfl (op_move (.inr rfl) (ev1 rfl)) ?_
          refine walk_nil ?_
          refine dwp_ret ?_
          refine kend0 (rs1 rfl (rv_t rfl)) rfl ?_
          first | rfl | (simp; omega)

end Go.Proofs.Ytfdekahbojoodaa
