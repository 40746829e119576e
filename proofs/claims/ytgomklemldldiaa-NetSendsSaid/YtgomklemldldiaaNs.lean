/- the law of what is sent, walked -/
import Derived.Test.YtgomklemldldiaaNm
namespace Go.Proofs.Ytgomklemldldiaa
set_option linter.unusedVariables false
set_option linter.unusedSimpArgs false
open Go.RowKit

theorem few_n {P : List Par} (h : ∀ p ∈ P, parN p) : ∀ p ∈ fewP P, parN p := fun p hp => by
  obtain ⟨q, hq, rfl⟩ := List.mem_map.1 hp
  intro x hx
  exact h q (List.mem_of_mem_take hq) x (List.mem_of_mem_take hx)
theorem few_b {P : List Par} : ∀ p ∈ fewP P, p.b.length ≤ 8193 := fun p hp => by
  obtain ⟨q, hq, rfl⟩ := List.mem_map.1 hp
  exact cutN q
theorem snd_b {P l : List Par} {n k : Nat} (hP : ∀ p ∈ P, p.b.length ≤ n) (hl : ∀ p ∈ l, p.b.length ≤ n) : ∀ p ∈ sndP P l k, p.b.length ≤ n := fun p hp => by
  rcases List.mem_append.1 (List.mem_of_mem_take hp) with h | h
  · exact hP p h
  · exact hl p (List.mem_of_mem_take h)
def wK (F : List Par) (L : Nat) (l : List Par) (k : Nat) : List Par × Nat := (l.take k).foldl (fun s p => (putP s.1 p, putL s.1 s.2)) (F, L)
theorem wK_succ {F : List Par} {L : Nat} {l : List Par} {k : Nat} (h : k < l.length) : wK F L l (k + 1) = (putP (wK F L l k).1 l[k], putL (wK F L l k).1 (wK F L l k).2) := by
  unfold wK
  rw [List.take_succ_eq_append_getElem h, List.foldl_append]
  rfl
theorem wK_right {F : List Par} {L : Nat} {l : List Par} (hF : F.length ≤ 64) (hL : L ≤ 4611686018427387904) : ∀ k, k ≤ l.length → wK F L l k = (sndP F l k, sndM F L k)
  | 0, _ => by rw [sndP_0 l hF, sndM_0 hL hF]; rfl
  | k + 1, h => by
    have hk : k < l.length := by omega
    rw [wK_succ hk, wK_right hF hL k (by omega)]
    unfold putP putL
    by_cases hr : (sndP F l k).length < 64
    · rw [if_pos hr, if_pos hr, sndP_room hk hr, sndM_room hk hr]
    · rw [if_neg hr, if_neg hr, sndP_full hk (by omega), sndM_full hk (by omega)]
      have := sndM_le F L k
      split
      · rw [show min (sndM F L k + 1) 4611686018427387904 = sndM F L k + 1 by omega]
      · rw [show min (sndM F L k + 1) 4611686018427387904 = sndM F L k by omega]
def badP (p : Par) : Bool := !mayB p || p.sp
def eK (l : List Par) (k : Nat) : Int := if (l.take k).any badP = true then 2 else 0
theorem eK_bad {l : List Par} {k : Nat} (h : k < l.length) (hb : badP l[k] = true) : eK l (k + 1) = 2 := by
  unfold eK
  rw [if_pos]
  rw [List.take_succ_eq_append_getElem h, List.any_append]
  simp [hb]
theorem eK_no {l : List Par} {k : Nat} (h : k < l.length) (hb : badP l[k] = false) : eK l (k + 1) = eK l k := by
  unfold eK
  rw [List.take_succ_eq_append_getElem h, List.any_append]
  simp [hb]
theorem bad_all (l : List Par) : l.any badP = !(l.all fun p => (mayB p && !p.sp)) := by
  induction l with
  | nil => rfl
  | cons p l ih => rw [List.any_cons, List.all_cons, ih]; simp [badP]
theorem eK_ok {l : List Par} (h : (l.all fun p => (mayB p && !p.sp)) = true) : eK l l.length = 0 := by
  unfold eK; rw [List.take_length, bad_all, h]; rfl
theorem eK_arg {l : List Par} (h : (l.all fun p => (mayB p && !p.sp)) = false) : eK l l.length = 2 := by
  unfold eK; rw [List.take_length, bad_all, h]; rfl
def isI (z : Int) (F : List Par) (i : Nat) : Bool := (F.take i).any (toB z)
def wantI (z : Int) (F : List Par) (i : Nat) : Int := if (F.take i).any (toB z) = true then fidx (toB z) (F.take i) else 0
theorem is_succ {z : Int} {F : List Par} {i : Nat} (h : i < F.length) : isI z F (i + 1) = (isI z F i || toB z F[i]) := by
  unfold isI; rw [List.take_succ_eq_append_getElem h, List.any_append]; simp
theorem want_hit {z : Int} {F : List Par} {i : Nat} (h : i < F.length) (h1 : isI z F i = false) (h2 : toB z F[i] = true) : wantI z F (i + 1) = (i : Int) := by
  have h3 : isI z F (i + 1) = true := by rw [is_succ h, h2, Bool.or_true]
  unfold wantI
  unfold isI at h3 h1
  rw [if_pos h3]
  refine fidx_at (by rw [List.length_take]; omega) (fun j hj hj2 => ?_) (by rw [List.getElem_take]; exact h2)
  rw [List.getElem_take]
  have := List.any_eq_false.1 h1 F[j] (by rw [List.mem_take_iff_getElem]; exact ⟨j, by omega, rfl⟩)
  simpa using this
theorem want_no {z : Int} {F : List Par} {i : Nat} (h : i < F.length) (hn : ¬ (isI z F i = false ∧ toB z F[i] = true)) : wantI z F (i + 1) = wantI z F i := by
  by_cases h1 : isI z F i = true
  · have h3 : isI z F (i + 1) = true := by rw [is_succ h, h1, Bool.true_or]
    unfold wantI
    unfold isI at h3 h1
    rw [if_pos h3, if_pos h1]
    unfold fidx
    rw [if_pos h3, if_pos h1, List.take_succ_eq_append_getElem h, List.findIdx_append, if_pos]
    exact List.findIdx_lt_length_of_exists (by simpa using h1)
  · have h2 : toB z F[i] = false := by
      cases e : toB z F[i] with
      | false => rfl
      | true => exact absurd ⟨by simpa using h1, e⟩ hn
    have h3 : isI z F (i + 1) = false := by rw [is_succ h, h2, Bool.or_false]; simpa using h1
    unfold wantI
    unfold isI at h3 h1
    rw [h3, Bool.eq_false_iff.2 h1]
    rfl
theorem is_no {z : Int} {F : List Par} {i : Nat} (h : i < F.length) (hn : ¬ (isI z F i = false ∧ toB z F[i] = true)) : isI z F (i + 1) = isI z F i := by
  rw [is_succ h]
  cases e : isI z F i with
  | true => rfl
  | false =>
    cases e2 : toB z F[i] with
    | false => rfl
    | true => exact absurd ⟨e, e2⟩ hn
theorem rright_t (P : List Par) (L : Nat) (h : P.length ≤ 1000000) {b : Bool} (hN : netB P (L : Int) = b) : DFun Try.prog 10 [nA P L] [] (.val (.bool b)) [] := hN ▸ rright_d P L h
theorem vw_netF {σ : List Nat} {V : Nat → Bool} {M : List Blk} {P : List Par} {L : Nat} {T : TypeId} {i j : Nat} (hp : pos σ i = none) (hV : V i = true) (hM : M[i]? = some (.arx T 3 P.length (P.zipIdx.flatMap (pF j)))) (hpj : pos σ j = none) (hVj : V j = true) (hMj : M[j]? = some (.fam (famP P))) : vw σ V M (.agg [.arr i, .val (.int .u64 (L : Int))]) = some (nA P L) := by
  have h1 : vw σ V M (.arr i) = some (.slm 3 P.length (P.zipIdx.flatMap fun q => pD q.1)) := vw_arrS hp hV hM fun q hq => by
    obtain ⟨p, k⟩ := q
    rw [List.mem_zipIdx_iff_getElem?] at hq
    dsimp only at hq
    obtain ⟨hk, hpe⟩ := List.getElem?_eq_some_iff.1 hq
    subst hpe
    show vw1L σ V M [.val _, .farr j k, .val _] = _
    have h2 := vw1_farr (k := k) hpj hVj hMj (famP_at hk)
    unfold vw1L; unfold vw1L; unfold vw1L; unfold vw1L
    rw [h2]
    rfl
  have h3 : (P.zipIdx.flatMap fun q => pD q.1) = P.flatMap pD := by
    have : (P.zipIdx.map Prod.fst) = P := by simp
    conv => rhs; rw [← this]
    rw [List.flatMap_map]
  rw [h3] at h1
  unfold vw
  unfold vwL
  rw [h1]
  rfl

set_option maxRecDepth 4000 in
set_option maxHeartbeats 1000000 in
theorem sends_d (P : List Par) (L : Nat) (Q : List Par) (M : Nat) (l : List Par) (hP : ∀ p ∈ P, parN p) (hQ : ∀ p ∈ Q, parN p) : DFun Try.prog 3 [.agg [.slm 3 (P).length ((P).flatMap pD), .val (.int .u64 (L : Int))], .agg [.slm 3 (Q).length ((Q).flatMap pD), .val (.int .u64 (M : Int))], .slm 3 (l).length ((l).flatMap pD)] [] (.val (.bool true)) [] := by
  refine dcalls_go (N := 170) 0 (by kernel_rfl) Try.func3 rfl rfl rfl (by simp only [fr0, Nat.zero_add, Nat.reduceAdd]; exact rfl) rfl fun s0 hs0 => ?_
  refine dwp_lenm (t := 2) rfl fun hl2 hL2 => ?_
  refine dwp_seq ?_
  have hAn := few_n hP
  have hBn := few_n hQ
  have hAl := fewP_len P
  have hBl := fewP_len Q
  have hll := fewP_len (l.take (min l.length 10))
  refine dwp_holes 2 (by simp only [holes, List.cons_append, List.nil_append]; exact rfl) ?_
  refine dwp_region ?_
  refine walk_w rfl rfl rfl (op_boxam 0 rfl (ev1 rfl) rfl) (by simp only [upd, List.set_cons_zero, List.set_cons_succ]; exact rfl) ?_
  refine walk_w rfl rfl rfl (op_boxam 1 rfl (ev1 rfl) rfl) (by simp only [upd, List.set_cons_zero, List.set_cons_succ]; exact rfl) ?_
  refine walk_r rfl rfl rfl (op_move (.inr rfl) (ev1 rfl)) ?_
  refine walk_nil ?_
  refine dwp_seq ?_
  refine dwp_seq ?_
  refine dwp_region ?_
  refine walk_r rfl rfl rfl (dop_call [] [] [] rfl (ev1 rfl) en rfl rfl (wakes_d) rfl rfl rfl rfl rfl rfl) ?_
  refine walk_r rfl rfl rfl (op_not rfl (ev1 rfl)) ?_
  refine walk_nil ?_
  refine dwp_if_f rfl (rfl) ?_
  refine dwp_skip ?_
  refine dwp_seq ?_
  refine dwp_holes 2 (by simp only [holes, List.cons_append, List.nil_append]; exact rfl) ?_
  refine dwp_draw [([0], []), ([], []), ([1], []), ([], []), ([], []), ([], []), ([], []), ([], []), ([], []), ([], []), ([2], [2]), ([3], [3]), ([2], [2]), ([3], [3]), ([], [])] mixed (by kernel_rfl) ?_
  refine lex_r rfl rfl (op_ldmw rfl tb25 (ev1 rfl) rfl rfl) ?_
  refine lex_r rfl rfl (dop_call [] [] [] rfl (ev1 rfl) (ec (ev1 rfl) en) rfl rfl (own_d P L) rfl rfl rfl rfl rfl rfl) ?_
  refine lex_r rfl rfl (op_ldmw rfl tb25 (ev1 rfl) rfl rfl) ?_
  refine lex_r rfl rfl (dop_call [] [] [] rfl (ev1 rfl) (ec (ev1 rfl) en) rfl rfl (own_d Q M) rfl rfl rfl rfl rfl rfl) ?_
  refine lex_r rfl rfl (op_move (.inl rfl) (ev1 rfl)) ?_
  refine lex_r rfl rfl (op_move (.inl rfl) (ev1 rfl)) ?_
  refine lex_r rfl rfl (op_lenm rfl sl22 (ev1 rfl)) ?_
  refine lex_r rfl rfl (op_min rfl (ev1 rfl) (ev1 rfl)) ?_
  refine lex_r rfl rfl (op_slmtk (j := min l.length 10) rfl sl22 (ev1 rfl) (bd_some (ev1 rfl)) (fun _ => by omega) (fun _ => by omega) (fun _ => rfl)) ?_
  refine lex_r rfl rfl (dop_call [] [] [] rfl (ev1 rfl) (ec (ev1 rfl) en) rfl rfl (few_f (l.take (min l.length 10))) rfl rfl rfl rfl rfl rfl) ?_
  refine lex_w rfl rfl (op_alloc 2 rfl zr25 rfl) rfl (by simp only [upd, List.set_cons_zero, List.set_cons_succ]; exact rfl) ?_
  refine lex_w rfl rfl (op_alloc 3 rfl zr25 rfl) rfl (by simp only [upd, List.set_cons_zero, List.set_cons_succ]; exact rfl) ?_
  refine lex_s rfl rfl (op_stam rfl tb25 (ev1 rfl) (ev1 rfl) rfl rfl rfl rfl) rfl (by simp only [upd, List.set_cons_zero, List.set_cons_succ]; exact rfl) ?_
  refine lex_s rfl rfl (op_stam rfl tb25 (ev1 rfl) (ev1 rfl) rfl rfl rfl rfl) rfl (by simp only [upd, List.set_cons_zero, List.set_cons_succ]; exact rfl) ?_
  refine lex_r rfl rfl (op_move (.inr rfl) (ev1 rfl)) ?_
  refine lex_nil ?_
  refine dwp_seq ?_
  by_cases hN : netB (fewP P) (L : Int) = true
  · obtain ⟨hle, hLm_⟩ := net_le hN
    have hLm : L ≤ 4611686018427387904 := by omega
    refine dwp_region ?_
    refine walk_r rfl rfl rfl (op_ldmw rfl tb25 (ev1 rfl) rfl rfl) ?_
    refine walk_r rfl rfl rfl (dop_call [] [] [] rfl (ev1 rfl) (ec (ev1 rfl) en) rfl rfl (rright_t (fewP P) L (by omega) hN) rfl rfl rfl rfl rfl rfl) ?_
    refine walk_r rfl rfl rfl (op_move (.inr rfl) (ev1 rfl)) ?_
    refine walk_nil ?_
    refine dwp_seq ?_
    refine dwp_seq ?_
    refine dwp_region ?_
    refine walk_r rfl rfl rfl (op_ldmw rfl tb25 (ev1 rfl) rfl rfl) ?_
    refine walk_r rfl rfl rfl (dop_call [] [] [] rfl (ev1 rfl) (ec (ev1 rfl) en) rfl rfl (check_ok (fewP P) _ hN) rfl rfl rfl rfl rfl rfl) ?_
    refine walk_r rfl rfl rfl (op_move (.inr rfl) (ev1 rfl)) ?_
    refine walk_nil ?_
    refine dwp_seq ?_
    refine dwp_draw [([], []), ([], []), ([], []), ([], []), ([], []), ([], []), ([], []), ([], []), ([], []), ([], []), ([], []), ([], []), ([], []), ([2], []), ([3], []), ([], []), ([2], []), ([3], []), ([], []), ([], []), ([], []), ([], []), ([2], []), ([0], []), ([], []), ([], []), ([], []), ([], []), ([], []), ([], []), ([], []), ([], []), ([], []), ([], [])] mixed (by kernel_rfl) ?_
    refine lex_r rfl rfl (op_move (.inl rfl) (ev1 rfl)) ?_
    refine lex_r rfl rfl (op_eql rfl (ev1 rfl) (ev1 rfl)) ?_
    refine lex_r rfl rfl (op_move (.inl rfl) (ev1 rfl)) ?_
    refine lex_r rfl rfl (op_neb rfl un4 (ev1 rfl) (ev1 rfl)) ?_
    refine lex_r rfl rfl (op_move (.inl rfl) (ev1 rfl)) ?_
    refine lex_gr (gd_f rfl rfl rfl) rfl rfl (op_move (.inl rfl) (ev1 rfl)) ?_
    refine lex_gr (gd_f rfl rfl rfl) rfl rfl (op_neq rfl (ev2 rfl) (ev1 rfl)) ?_
    refine lex_gr (gd_f rfl rfl rfl) rfl rfl (op_move (.inl rfl) (ev2 rfl)) ?_
    refine lex_gr (gd_tt rfl rfl rfl) rfl rfl (op_move (.inl rfl) (ev1 rfl)) ?_
    refine lex_gr (gd_tt rfl rfl rfl) rfl rfl (op_neq rfl (ev2 rfl) (ev1 rfl)) ?_
    refine lex_gr (gd_f rfl rfl rfl) rfl rfl (op_and rfl (ev2 rfl) (ev2 rfl)) ?_
    refine lex_r rfl rfl (op_or rfl (ev1 rfl) (ev3 rfl id)) ?_
    refine lex_r rfl rfl (op_move (.inl rfl) (ev1 rfl)) ?_
    refine lex_gr (gd_f rfl rfl rfl) rfl rfl (op_ldmw rfl tb25 (ev1 rfl) rfl rfl) ?_
    refine lex_gr (gd_f rfl rfl rfl) rfl rfl (op_ldmw rfl tb25 (ev1 rfl) rfl rfl) ?_
    refine lex_gr (gd_f rfl rfl rfl) rfl rfl (dop_call [] [] [] rfl (ev1 rfl) (ec (ev2 rfl) (ec (ev2 rfl) en)) rfl rfl (nsame_d (fewP P) (fewP Q) L M hAn hBn) rfl rfl rfl rfl rfl rfl) ?_
    refine lex_gr (gd_f rfl rfl rfl) rfl rfl (op_ldmw rfl tb25 (ev1 rfl) rfl rfl) ?_
    refine lex_gr (gd_f rfl rfl rfl) rfl rfl (op_ldmw rfl tb25 (ev1 rfl) rfl rfl) ?_
    refine lex_gr (gd_f rfl rfl rfl) rfl rfl (dop_call [] [] [] rfl (ev1 rfl) (ec (ev2 rfl) (ec (ev2 rfl) en)) rfl rfl (rsame_d (fewP P) (fewP Q) L M (by omega)) rfl rfl rfl rfl rfl rfl) ?_
    refine lex_gr (gd_f rfl rfl rfl) rfl rfl (op_neb rfl un4 (ev2 rfl) (ev2 rfl)) ?_
    refine lex_r rfl rfl (op_or rfl (ev1 rfl) (ev3 rfl id)) ?_
    refine lex_r rfl rfl (op_move (.inl rfl) (ev1 rfl)) ?_
    refine lex_gr (gd_f rfl rfl rfl) rfl rfl (op_ldmw rfl tb25 (ev1 rfl) rfl rfl) ?_
    refine lex_gr (gd_f rfl rfl rfl) rfl rfl (op_ldmw rfl tb25 (ev1 rfl) rfl rfl) ?_
    refine lex_gr (gd_f rfl rfl rfl) rfl rfl (dop_call [] [] [] rfl (ev1 rfl) (ec (ev2 rfl) en) rfl rfl (own_d P L) rfl rfl rfl rfl rfl rfl) ?_
    refine lex_gr (gd_f rfl rfl rfl) rfl rfl (dop_call [] [] [] rfl (ev1 rfl) (ec (ev2 rfl) (ec (ev2 rfl) en)) rfl rfl (nsame_d (fewP P) (fewP P) L L hAn hAn) rfl rfl rfl rfl rfl rfl) ?_
    refine lex_gr (gd_f rfl rfl rfl) rfl rfl (op_not rfl (ev2 rfl)) ?_
    refine lex_r rfl rfl (op_or rfl (ev1 rfl) (ev3 rfl id)) ?_
    refine lex_r rfl rfl (op_move (.inl rfl) (ev1 rfl)) ?_
    refine lex_gr (gd_f rfl rfl rfl) rfl rfl (dop_call [] [] [] rfl (ev1 rfl) en rfl rfl (new_f) rfl rfl rfl rfl rfl rfl) ?_
    refine lex_gr (gd_f rfl rfl rfl) rfl rfl (op_build0 rfl fl25 zr25) ?_
    refine lex_gr (gd_f rfl rfl rfl) rfl rfl (dop_call [] [] [] rfl (ev1 rfl) (ec (ev2 rfl) (ec (evwk (fun s v h => rep_zn h) (ev2 rfl)) en)) rfl rfl (rsame_d [] [] 0 0 (by simp)) rfl rfl rfl rfl rfl rfl) ?_
    refine lex_gr (gd_f rfl rfl rfl) rfl rfl (op_not rfl (ev2 rfl)) ?_
    refine lex_r rfl rfl (op_or rfl (ev1 rfl) (ev3 rfl id)) ?_
    refine lex_nil ?_
    refine dwp_if_f rfl (by simp) ?_
    refine dwp_skip ?_
    refine dwp_seq ?_
    refine dwp_seq ?_
    refine dwp_region ?_
    refine walk_r rfl rfl rfl (op_move (.inr rfl) (ev1 rfl)) ?_
    refine walk_nil ?_
    refine dwp_block ?_
    refine dwp_loopS ⟨hs0, rfl⟩ (α := Int) (fun z => [(12, .val (.int .i64 z))]) [(2, _), (3, _), (7, _), (9, _), (10, _)] (fun z => []) [_, _, _, _] (fun z => -1 ≤ z ∧ z ≤ 10) (fun z => (10 - z).toNat) (-1) [0, 1, 2, 3] (by simp) rfl ⟨rfl, rfl, rfl, rfl, rfl, trivial⟩ ⟨rfl, trivial⟩ ⟨rfl, rfl, rfl, rfl, trivial⟩ ?_
    intro z hx
    simp only [upd, List.set_cons_zero, List.set_cons_succ, List.cons_append, List.nil_append]
    obtain ⟨hz1, hz2⟩ := hx
    refine dwp_seq ?_
    refine dwp_seq ?_
    refine dwp_region ?_
    refine walk_r rfl rfl rfl (op_move (.inl rfl) (ev1 rfl)) ?_
    refine walk_r rfl rfl rfl (op_leq rfl (ev1 rfl) (ev1 rfl)) ?_
    refine walk_nil ?_
    refine dwp_cond rfl (fun c3 => ?_) (fun c3 => ?_)
    · try simp only [decide_eq_true_eq, decide_eq_false_iff_not, beq_iff_eq, bne_iff_ne, beq_eq_false_iff_ne, bne_eq_false_iff_eq, Bool.not_eq_true', Bool.not_eq_false', Bool.and_eq_true, Bool.or_eq_true, Bool.or_eq_false_iff, ne_eq, Decidable.not_not, Int.not_lt, Int.not_le] at c3
      refine dwp_skip ?_
      refine dwp_seq ?_
      refine dwp_block ?_
      refine dwp_seq ?_
      refine dwp_region ?_
      refine walk_r rfl rfl rfl (op_ldmw rfl tb25 (ev1 rfl) rfl rfl) ?_
      refine walk_r rfl rfl rfl (op_move (.inl rfl) (ev1 rfl)) ?_
      refine walk_r rfl rfl rfl (dop_call [] [] [] rfl (ev1 rfl) (ec (ev1 rfl) (ec (ev1 rfl) en)) rfl rfl (First_f (fewP P) L z hN) rfl rfl rfl rfl rfl rfl) ?_
      refine walk_r rfl rfl rfl (op_move (.inl rfl) (ev1 rfl)) ?_
      refine walk_r rfl rfl rfl (op_ext rfl (ev1 rfl) rfl) ?_
      refine walk_r rfl rfl rfl (op_ext rfl (ev1 rfl) rfl) ?_
      refine walk_r rfl rfl rfl (op_move (.inr rfl) (ev1 rfl)) ?_
      refine walk_r rfl rfl rfl (op_move (.inr rfl) (ev1 rfl)) ?_
      refine walk_nil ?_
      refine dwp_seq ?_
      refine dwp_region ?_
      refine walk_r rfl rfl rfl (op_move (.inr rfl) (ev1 rfl)) ?_
      refine walk_r rfl rfl rfl (op_move (.inr rfl) (ev1 rfl)) ?_
      refine walk_nil ?_
      refine dwp_seq ?_
      refine dwp_seq ?_
      refine dwp_region ?_
      refine walk_r rfl rfl rfl (op_fa rfl fo25_0 (ev1 rfl)) ?_
      refine walk_r rfl rfl rfl (op_ldm rfl tb22 (ev1 rfl) rfl rfl) ?_
      refine walk_r rfl rfl rfl (op_lenm rfl sl22 (ev1 rfl)) ?_
      refine walk_r rfl rfl rfl (op_move (.inl rfl) (ev1 rfl)) ?_
      refine walk_nil ?_
      refine dwp_block ?_
      refine dwp_loopS ⟨hs0, rfl⟩ (α := Nat) (fun i => [(15, .val (.int .i64 (wantI z (fewP P) i))), (16, .val (.bool (isI z (fewP P) i))), (88, .val (.int .i64 (i : Int)))]) [(2, _), (3, _), (7, _), (9, _), (10, _), (12, _), (13, _), (14, _), (86, _), (87, _)] (fun i => []) [_, _, _, _] (fun i => i ≤ (fewP P).length) (fun i => (fewP P).length - i) 0 [0, 1, 2, 3] (by simp) rfl ⟨rfl, rfl, rfl, rfl, rfl, rfl, rfl, rfl, rfl, rfl, trivial⟩ ⟨rfl, rfl, rfl, trivial⟩ ⟨rfl, rfl, rfl, rfl, trivial⟩ ?_
      intro i hx
      simp only [upd, List.set_cons_zero, List.set_cons_succ, List.cons_append, List.nil_append]
      have hi := hx
      refine dwp_seq ?_
      refine dwp_region ?_
      refine walk_r rfl rfl rfl (op_lss rfl (ev1 rfl) (ev1 rfl)) ?_
      refine walk_nil ?_
      refine dwp_seq ?_
      refine dwp_cond rfl (fun c4 => ?_) (fun c4 => ?_)
      · try simp only [decide_eq_true_eq, decide_eq_false_iff_not, beq_iff_eq, bne_iff_ne, beq_eq_false_iff_ne, bne_eq_false_iff_eq, Bool.not_eq_true', Bool.not_eq_false', Bool.and_eq_true, Bool.or_eq_true, Bool.or_eq_false_iff, ne_eq, Decidable.not_not, Int.not_lt, Int.not_le] at c4
        refine dwp_skip ?_
        refine dwp_seq ?_
        refine dwp_block ?_
        refine dwp_seq ?_
        have hil : i < (fewP P).length := by omega
        refine dwp_holes 1 (by simp only [holes, List.cons_append, List.nil_append]; exact rfl) ?_
        refine dwp_region ?_
        refine walk_r rfl rfl rfl (op_move (.inl rfl) (ev1 rfl)) ?_
        refine walk_r rfl rfl rfl (op_ixmr (i) (by decide) rfl sl22 (ev1 rfl) (ev1 rfl) (fun _ => rfl) (by omega) (fun _ => rfl)) ?_
        refine walk_r rfl rfl rfl (op_lddr rfl tb38 (ev1 rfl) rfl rfl) ?_
        refine walk_w rfl rfl rfl (op_alloc 4 rfl zr38 rfl) (by simp only [upd, List.set_cons_zero, List.set_cons_succ]; exact rfl) ?_
        refine walk_r rfl rfl rfl (op_move (.inr rfl) (ev1 rfl)) ?_
        refine walk_s rfl rfl (op_stam rfl tb38 (ev1 rfl) (ev1 rfl) rfl rfl rfl rfl) (by simp only [upd, List.set_cons_zero, List.set_cons_succ]; exact rfl) ?_
        refine walk_nil ?_
        refine dwp_seq ?_
        refine dwp_region ?_
        refine walk_r rfl rfl rfl (op_move (.inl rfl) (ev1 rfl)) ?_
        refine walk_r rfl rfl rfl (op_move (.inl rfl) (ev1 rfl)) ?_
        refine walk_gr (gd_t rfl rfl rfl) rfl rfl rfl (op_move (.inl rfl) (ev1 rfl)) ?_
        refine walk_gr (gd_t rfl rfl rfl) rfl rfl rfl (op_not rfl (ev2 rfl)) ?_
        refine walk_r rfl rfl rfl (op_and rfl (ev1 rfl) (ev3 rfl id)) ?_
        refine walk_r rfl rfl rfl (op_move (.inl rfl) (ev1 rfl)) ?_
        refine walk_gr (gd_t rfl rfl rfl) rfl rfl rfl (op_fa rfl fo38_0 (ev1 rfl)) ?_
        refine walk_gr (gd_t rfl rfl rfl) rfl rfl rfl (op_ldm rfl tb3 (ev2 rfl) rfl rfl) ?_
        refine walk_gr (gd_t rfl rfl rfl) rfl rfl rfl (op_move (.inl rfl) (ev1 rfl)) ?_
        refine walk_gr (gd_t rfl rfl rfl) rfl rfl rfl (op_eql rfl (ev2 rfl) (ev2 rfl)) ?_
        refine walk_r rfl rfl rfl (op_and rfl (ev1 rfl) (ev3 rfl id)) ?_
        refine walk_nil ?_
        refine dwp_cond rfl (fun cH => ?_) (fun cH => ?_)
        · have cT : isI z (fewP P) i = false ∧ toB z (fewP P)[i] = true := by simpa [toB] using cH
          refine dwp_region ?_
          refine walk_r rfl rfl rfl (op_move (.inl rfl) (ev1 rfl)) ?_
          refine walk_r rfl rfl rfl (op_move (.inr rfl) (ev1 rfl)) ?_
          refine walk_r rfl rfl rfl (op_move (.inr rfl) (ev1 rfl)) ?_
          refine walk_nil ?_
          refine dwp_region ?_
          refine walk_r rfl rfl rfl (op_add' rfl (ev1 rfl) (ev1 rfl) (fun _ => IntWalk.i64_in _ (by omega))) ?_
          refine walk_r rfl rfl rfl (op_move (.inl rfl) (ev1 rfl)) ?_
          refine walk_nil ?_
          refine ⟨i + 1, [0, 1, 2, 3], by omega, by simp only []; omega, rfl, ⟨congrArg (fun n => some (D.val (.int .i64 n))) (want_hit hil cT.1 cT.2).symm, congrArg (fun b => some (D.val (.bool b))) (by rw [is_succ hil, cT.2, Bool.or_true]), rfl, rfl, rfl, rfl, rfl, rfl, rfl, rfl, rfl, rfl, rfl, trivial⟩, ⟨rfl, rfl, rfl, rfl, trivial⟩⟩
        · have cF : ¬ (isI z (fewP P) i = false ∧ toB z (fewP P)[i] = true) := by simpa [toB] using cH
          refine dwp_skip ?_
          refine dwp_region ?_
          refine walk_r rfl rfl rfl (op_add' rfl (ev1 rfl) (ev1 rfl) (fun _ => IntWalk.i64_in _ (by omega))) ?_
          refine walk_r rfl rfl rfl (op_move (.inl rfl) (ev1 rfl)) ?_
          refine walk_nil ?_
          refine ⟨i + 1, [0, 1, 2, 3], by omega, by simp only []; omega, rfl, ⟨congrArg (fun n => some (D.val (.int .i64 n))) (want_no hil cF).symm, congrArg (fun b => some (D.val (.bool b))) (is_no hil cF).symm, rfl, rfl, rfl, rfl, rfl, rfl, rfl, rfl, rfl, rfl, rfl, trivial⟩, ⟨rfl, rfl, rfl, rfl, trivial⟩⟩
      · try simp only [decide_eq_true_eq, decide_eq_false_iff_not, beq_iff_eq, bne_iff_ne, beq_eq_false_iff_ne, bne_eq_false_iff_eq, Bool.not_eq_true', Bool.not_eq_false', Bool.and_eq_true, Bool.or_eq_true, Bool.or_eq_false_iff, ne_eq, Decidable.not_not, Int.not_lt, Int.not_le] at c4
        refine dwp_exit ?_
        refine dwp_seq ?_
        obtain rfl : i = (fewP P).length := by omega
        refine dwp_region ?_
        refine walk_r rfl rfl rfl (op_move (.inl rfl) (ev1 rfl)) ?_
        refine walk_r rfl rfl rfl (op_move (.inl rfl) (ev1 rfl)) ?_
        refine walk_r rfl rfl rfl (op_neq rfl (ev1 rfl) (ev1 rfl)) ?_
        refine walk_r rfl rfl rfl (op_move (.inl rfl) (ev1 rfl)) ?_
        refine walk_gr (gd_f rfl rfl rfl) rfl rfl rfl (op_move (.inl rfl) (ev1 rfl)) ?_
        refine walk_gr (gd_f rfl rfl rfl) rfl rfl rfl (op_move (.inl rfl) (ev1 rfl)) ?_
        refine walk_gr (gd_f rfl rfl rfl) rfl rfl rfl (op_neb rfl un4 (ev2 rfl) (ev2 rfl)) ?_
        refine walk_r rfl rfl rfl (op_or rfl (ev1 rfl) (ev3 rfl id)) ?_
        refine walk_nil ?_
        refine dwp_if_f rfl (by simp [wantI, isI, List.take_length]) ?_
        refine dwp_skip ?_
        refine dwp_region ?_
        refine walk_r rfl rfl rfl (op_move (.inl rfl) (ev1 rfl)) ?_
        refine walk_r rfl rfl rfl (op_add' rfl (ev1 rfl) (ev1 rfl) (fun _ => IntWalk.i64_in _ (by omega))) ?_
        refine walk_r rfl rfl rfl (op_move (.inr rfl) (ev1 rfl)) ?_
        refine walk_nil ?_
        refine ⟨z + 1, [0, 1, 2, 3], by omega, by simp only []; omega, rfl, ⟨rfl, rfl, rfl, rfl, rfl, rfl, trivial⟩, ⟨rfl, rfl, rfl, rfl, trivial⟩⟩
    · try simp only [decide_eq_true_eq, decide_eq_false_iff_not, beq_iff_eq, bne_iff_ne, beq_eq_false_iff_ne, bne_eq_false_iff_eq, Bool.not_eq_true', Bool.not_eq_false', Bool.and_eq_true, Bool.or_eq_true, Bool.or_eq_false_iff, ne_eq, Decidable.not_not, Int.not_lt, Int.not_le] at c3
      refine dwp_exit ?_
      refine dwp_seq ?_
      by_cases hS : ((fewP (l.take (min l.length 10))).all fun p => (mayB p && !p.sp)) = true
      · refine dwp_hole ?_
        refine dwp_fam 4 rfl (by simp only [List.cons_append, List.nil_append, List.set_cons_zero, List.set_cons_succ]; exact rfl) ?_
        refine dwp_holes 2 (by simp only [holes, List.cons_append, List.nil_append]; exact rfl) ?_
        refine dwp_region ?_
        refine walk_r rfl rfl rfl (op_ldmw rfl tb25 (ev1 rfl) rfl rfl) ?_
        refine walk_r rfl rfl rfl (op_move (.inl rfl) (ev1 rfl)) ?_
        refine walk_w rfl rfl rfl (dop_call [4] [] [5] rfl (ev1 rfl) (ec (ev1 rfl) (ec (ev1 rfl) en)) rfl rfl (Send_F (fewP P) (fewP (l.take (min l.length 10))) L hN (by omega) hS) rfl rfl rfl (by exact (wrc rfl (wrc (by first | exact rfl | exact sb_arx (fun _ => rfl) | exact sb_arxr (nlL_flatR (fun _ => rfl) _) | exact sb_arxg (fun _ => rfl) | exact sb_arxs (fun _ => rfl)) rfl))) rfl rfl) (by simp only [upd, List.set_cons_zero, List.set_cons_succ]; exact rfl) ?_
        refine walk_r rfl rfl rfl (op_move (.inl rfl) (ev1 rfl)) ?_
        refine walk_r rfl rfl rfl (op_ext rfl (ev1 rfl) rfl) ?_
        refine walk_r rfl rfl rfl (op_ext rfl (ev1 rfl) rfl) ?_
        refine walk_w rfl rfl rfl (op_alloc 6 rfl zr25 rfl) (by simp only [upd, List.set_cons_zero, List.set_cons_succ]; exact rfl) ?_
        refine walk_s rfl rfl (op_stam rfl tb25 (ev1 rfl) (ev1 rfl) rfl rfl rfl rfl) (by simp only [upd, List.set_cons_zero, List.set_cons_succ]; exact rfl) ?_
        refine walk_r rfl rfl rfl (op_move (.inr rfl) (ev1 rfl)) ?_
        refine walk_nil ?_
        refine dwp_seq ?_
        refine dwp_holes 1 (by simp only [holes, List.cons_append, List.nil_append]; exact rfl) ?_
        refine dwp_region ?_
        refine walk_r rfl rfl rfl (op_ldmw rfl tb25 (ev1 rfl) rfl rfl) ?_
        refine walk_w rfl rfl rfl (op_alloc 7 rfl zr25 rfl) (by simp only [upd, List.set_cons_zero, List.set_cons_succ]; exact rfl) ?_
        refine walk_s rfl rfl (op_stam rfl tb25 (ev1 rfl) (ev1 rfl) rfl rfl rfl rfl) (by simp only [upd, List.set_cons_zero, List.set_cons_succ]; exact rfl) ?_
        refine walk_r rfl rfl rfl (op_move (.inr rfl) (ev1 rfl)) ?_
        refine walk_nil ?_
        refine dwp_seq ?_
        refine dwp_seq ?_
        refine dwp_region ?_
        refine walk_r rfl rfl rfl (op_move (.inl rfl) (ev1 rfl)) ?_
        refine walk_r rfl rfl rfl (op_lenm rfl sl22 (ev1 rfl)) ?_
        refine walk_r rfl rfl rfl (op_move (.inl rfl) (ev1 rfl)) ?_
        refine walk_nil ?_
        refine dwp_block ?_
        refine dwp_loopS ⟨hs0, rfl⟩ (α := Nat) (fun k => [(22, .val (.int .i64 (eK (fewP (l.take (min l.length 10))) k))), (123, .val (.int .i64 (k : Int)))]) [(2, _), (3, _), (7, _), (9, _), (10, _), (19, _), (20, _), (21, _), (121, _), (122, _)] (fun k => [(7, .mix 25 [.slm 3 (wK (fewP P) L (fewP (l.take (min l.length 10))) k).1.length ((wK (fewP P) L (fewP (l.take (min l.length 10))) k).1.flatMap pD), .val (.int .u64 ((wK (fewP P) L (fewP (l.take (min l.length 10))) k).2 : Int))])]) [_, _, _, _, _, _, _, .hole] (fun k => k ≤ (fewP (l.take (min l.length 10))).length) (fun k => (fewP (l.take (min l.length 10))).length - k) 0 [0, 1, 2, 3, 4, 5, 6, 7] (by simp) rfl ⟨rfl, rfl, rfl, rfl, rfl, rfl, rfl, rfl, rfl, rfl, trivial⟩ ⟨rfl, rfl, trivial⟩ ⟨rfl, rfl, rfl, rfl, rfl, arxs_fits rfl rfl (fun _ => rfl), rfl, rfl, trivial⟩ ?_
        intro k hx
        simp only [upd, List.set_cons_zero, List.set_cons_succ, List.cons_append, List.nil_append]
        have hk := hx
        refine dwp_seq ?_
        refine dwp_region ?_
        refine walk_r rfl rfl rfl (op_lss rfl (ev1 rfl) (ev1 rfl)) ?_
        refine walk_nil ?_
        refine dwp_seq ?_
        refine dwp_cond rfl (fun c7 => ?_) (fun c7 => ?_)
        · try simp only [decide_eq_true_eq, decide_eq_false_iff_not, beq_iff_eq, bne_iff_ne, beq_eq_false_iff_ne, bne_eq_false_iff_eq, Bool.not_eq_true', Bool.not_eq_false', Bool.and_eq_true, Bool.or_eq_true, Bool.or_eq_false_iff, ne_eq, Decidable.not_not, Int.not_lt, Int.not_le] at c7
          refine dwp_skip ?_
          refine dwp_seq ?_
          refine dwp_block ?_
          refine dwp_seq ?_
          have hkl : k < (fewP (l.take (min l.length 10))).length := by omega
          refine dwp_holes 1 (by simp only [holes, List.cons_append, List.nil_append]; exact rfl) ?_
          refine dwp_region ?_
          refine walk_r rfl rfl rfl (op_ixmr (k) (by decide) rfl sl22 (ev1 rfl) (ev1 rfl) (fun _ => rfl) (by omega) (fun _ => rfl)) ?_
          refine walk_r rfl rfl rfl (op_lddr rfl tb38 (ev1 rfl) rfl rfl) ?_
          refine walk_w rfl rfl rfl (op_alloc 8 rfl zr38 rfl) (by simp only [upd, List.set_cons_zero, List.set_cons_succ]; exact rfl) ?_
          refine walk_s rfl rfl (op_stam rfl tb38 (ev1 rfl) (ev1 rfl) rfl rfl rfl rfl) (by simp only [upd, List.set_cons_zero, List.set_cons_succ]; exact rfl) ?_
          refine walk_nil ?_
          refine dwp_seq ?_
          refine dwp_region ?_
          refine walk_r rfl rfl rfl (op_ldmw rfl tb25 (ev1 rfl) rfl rfl) ?_
          refine walk_r rfl rfl rfl (op_ldmw rfl tb38 (ev1 rfl) rfl rfl) ?_
          refine walk_r rfl rfl rfl (dop_call [] [] [] rfl (ev1 rfl) (ec (ev1 rfl) (ec (ev1 rfl) en)) rfl rfl (rput_f _ _ (fewP (l.take (min l.length 10)))[k]) rfl rfl rfl rfl rfl rfl) ?_
          refine walk_s rfl rfl (op_stmw rfl tb25 (ev1 rfl) (ev1 rfl) rfl rfl rfl rfl) (by simp only [upd, List.set_cons_zero, List.set_cons_succ]; exact rfl) ?_
          refine walk_nil ?_
          refine dwp_seq ?_
          refine dwp_region ?_
          refine walk_r rfl rfl rfl (op_ldmw rfl tb38 (ev1 rfl) rfl rfl) ?_
          refine walk_r rfl rfl rfl (dop_call [] [] [] rfl (ev1 rfl) (ec (ev1 rfl) en) rfl rfl (rmay_d (fewP (l.take (min l.length 10)))[k]) rfl rfl rfl rfl rfl rfl) ?_
          refine walk_r rfl rfl rfl (op_not rfl (ev1 rfl)) ?_
          refine walk_r rfl rfl rfl (op_move (.inl rfl) (ev1 rfl)) ?_
          refine walk_gr (gd_f rfl rfl rfl) rfl rfl rfl (op_fa rfl fo38_2 (ev1 rfl)) ?_
          refine walk_gr (gd_f rfl rfl rfl) rfl rfl rfl (op_ldm rfl tb4 (ev2 rfl) rfl rfl) ?_
          refine walk_r rfl rfl rfl (op_or rfl (ev1 rfl) (ev3 rfl id)) ?_
          refine walk_nil ?_
          refine dwp_cond rfl (fun cB => ?_) (fun cB => ?_)
          · have cB_ : badP (fewP (l.take (min l.length 10)))[k] = true := cB
            refine dwp_region ?_
            refine walk_r rfl rfl rfl (op_move (.inr rfl) (ev1 rfl)) ?_
            refine walk_nil ?_
            refine dwp_region ?_
            refine walk_r rfl rfl rfl (op_add' rfl (ev1 rfl) (ev1 rfl) (fun _ => IntWalk.i64_in _ (by omega))) ?_
            refine walk_r rfl rfl rfl (op_move (.inl rfl) (ev1 rfl)) ?_
            refine walk_nil ?_
            refine ⟨k + 1, [0, 1, 2, 3, 4, 5, 6, 7], by omega, by simp only []; omega, rfl, ⟨congrArg (fun n => some (D.val (.int .i64 n))) (eK_bad hkl cB_).symm, rfl, rfl, rfl, rfl, rfl, rfl, rfl, rfl, rfl, rfl, rfl, trivial⟩, ⟨rfl, rfl, rfl, rfl, rfl, arxs_fits rfl rfl (fun _ => rfl), rfl, by rw [wK_succ hkl]; rfl, trivial⟩⟩
          · have cB_ : badP (fewP (l.take (min l.length 10)))[k] = false := cB
            refine dwp_skip ?_
            refine dwp_region ?_
            refine walk_r rfl rfl rfl (op_add' rfl (ev1 rfl) (ev1 rfl) (fun _ => IntWalk.i64_in _ (by omega))) ?_
            refine walk_r rfl rfl rfl (op_move (.inl rfl) (ev1 rfl)) ?_
            refine walk_nil ?_
            refine ⟨k + 1, [0, 1, 2, 3, 4, 5, 6, 7], by omega, by simp only []; omega, rfl, ⟨congrArg (fun n => some (D.val (.int .i64 n))) (eK_no hkl cB_).symm, rfl, rfl, rfl, rfl, rfl, rfl, rfl, rfl, rfl, rfl, rfl, trivial⟩, ⟨rfl, rfl, rfl, rfl, rfl, arxs_fits rfl rfl (fun _ => rfl), rfl, by rw [wK_succ hkl]; rfl, trivial⟩⟩
        · try simp only [decide_eq_true_eq, decide_eq_false_iff_not, beq_iff_eq, bne_iff_ne, beq_eq_false_iff_ne, bne_eq_false_iff_eq, Bool.not_eq_true', Bool.not_eq_false', Bool.and_eq_true, Bool.or_eq_true, Bool.or_eq_false_iff, ne_eq, Decidable.not_not, Int.not_lt, Int.not_le] at c7
          refine dwp_exit ?_
          refine dwp_seq ?_
          refine dwp_seq ?_
          obtain rfl : k = (fewP (l.take (min l.length 10))).length := by omega
          have hE := eK_ok hS
          have hW := wK_right (l := (fewP (l.take (min l.length 10)))) hle hLm _ (Nat.le_refl _)
          refine dwp_region ?_
          refine walk_r rfl rfl rfl (op_move (.inl rfl) (ev1 rfl)) ?_
          refine walk_r rfl rfl rfl (op_not rfl (ev1 rfl)) ?_
          refine walk_nil ?_
          refine dwp_if_f rfl (rfl) ?_
          refine dwp_skip ?_
          refine dwp_seq ?_
          refine dwp_seq ?_
          refine dwp_region ?_
          refine walk_r rfl rfl rfl (op_move (.inl rfl) (ev1 rfl)) ?_
          refine walk_r rfl rfl rfl (op_neq rfl (ev1 rfl) (ev1 rfl)) ?_
          refine walk_nil ?_
          refine dwp_if_f rfl (by rw [hE]; rfl) ?_
          refine dwp_skip ?_
          refine dwp_seq ?_
          refine dwp_seq ?_
          simp only [hW]
          refine dwp_region ?_
          refine walk_r rfl rfl rfl (op_move (.inl rfl) (ev1 rfl)) ?_
          refine walk_r rfl rfl rfl (op_move (.inl rfl) (ev1 rfl)) ?_
          refine walk_r rfl rfl rfl (op_neq rfl (ev1 rfl) (ev1 rfl)) ?_
          refine walk_r rfl rfl rfl (op_move (.inl rfl) (ev1 rfl)) ?_
          refine walk_gr (gd_f rfl rfl rfl) rfl rfl rfl (op_ldmw rfl tb25 (ev1 rfl) rfl rfl) ?_
          refine walk_gr (gd_f rfl rfl rfl) rfl rfl rfl (op_ldmw rfl tb25 (ev1 rfl) rfl rfl) ?_
          refine walk_gr (gd_f rfl rfl rfl) rfl rfl rfl (dop_call [] [5, 4] [] rfl (ev1 rfl) (ec (ev2 rfl) (ec (ev2 rfl) en)) (vwL_cons' (vw_netF rfl rfl rfl rfl rfl rfl) rfl) rfl (rsame_d (sndP (fewP P) (fewP (l.take (min l.length 10))) (fewP (l.take (min l.length 10))).length) (sndP (fewP P) (fewP (l.take (min l.length 10))) (fewP (l.take (min l.length 10))).length) (sndM (fewP P) L (fewP (l.take (min l.length 10))).length) (sndM (fewP P) L (fewP (l.take (min l.length 10))).length) (by rw [sndP_len (Nat.le_refl _)]; omega)) rfl rfl rfl rfl rfl rfl) ?_
          refine walk_gr (gd_f rfl rfl rfl) rfl rfl rfl (op_not rfl (ev2 rfl)) ?_
          refine walk_r rfl rfl rfl (op_or rfl (ev1 rfl) (ev3 rfl id)) ?_
          refine walk_nil ?_
          refine dwp_if_f rfl (by simp [hE]) ?_
          refine dwp_skip ?_
          refine dwp_seq ?_
          refine dwp_region ?_
          refine walk_r rfl rfl rfl (op_ldmw rfl tb25 (ev1 rfl) rfl rfl) ?_
          refine walk_w rfl rfl rfl (dop_call [4, 5] [] [] rfl (ev1 rfl) (ec (ev1 rfl) en) rfl (by exact mfits _ _ ⟨rfl, (by first | exact rfl | exact arx_fits rfl rfl (vwL_flat (fun _ => rfl) _) | exact arxr_fits rfl rfl (nlL_flatR (fun _ => rfl) _) | exact arxg_fits rfl rfl (fun _ => rfl) | exact arxs_fits rfl rfl (fun _ => rfl)), trivial⟩) (spoil_F _ (sndM (fewP P) L (fewP (l.take (min l.length 10))).length) (fun p hp => Nat.le_trans (snd_b (n := 8193) few_b few_b p hp) (by decide)) (by rw [sndP_len (Nat.le_refl _)]; omega)) rfl rfl rfl (by exact (wrc rfl (wrc (by first | exact rfl | exact sb_arx (fun _ => rfl) | exact sb_arxr (nlL_flatR (fun _ => rfl) _) | exact sb_arxg (fun _ => rfl) | exact sb_arxs (fun _ => rfl)) rfl))) rfl rfl) (by simp only [upd, List.set_cons_zero, List.set_cons_succ]; exact rfl) ?_
          refine walk_nil ?_
          refine dwp_seq ?_
          refine dwp_draw [([2], []), ([0], []), ([], []), ([], []), ([], []), ([], []), ([], []), ([], []), ([], []), ([], []), ([], []), ([], []), ([], []), ([], []), ([], []), ([], []), ([], [])] mixed (by kernel_rfl) ?_
          refine lex_r rfl rfl (op_ldmw rfl tb25 (ev1 rfl) rfl rfl) ?_
          refine lex_r rfl rfl (op_ldmw rfl tb25 (ev1 rfl) rfl rfl) ?_
          refine lex_r rfl rfl (dop_call [] [] [] rfl (ev1 rfl) (ec (ev1 rfl) en) rfl rfl (own_d P L) rfl rfl rfl rfl rfl rfl) ?_
          refine lex_r rfl rfl (dop_call [] [] [] rfl (ev1 rfl) (ec (ev1 rfl) (ec (ev1 rfl) en)) rfl rfl (rsame_d (fewP P) (fewP P) L L (by omega)) rfl rfl rfl rfl rfl rfl) ?_
          refine lex_r rfl rfl (op_move (.inl rfl) (ev1 rfl)) ?_
          refine lex_gr (gd_t rfl rfl rfl) rfl rfl (op_move (.inl rfl) (ev1 rfl)) ?_
          refine lex_gr (gd_t rfl rfl rfl) rfl rfl (op_bldD (ps := [(0, .tmp 159)]) rfl fl25 zr25 (ec (ev2 rfl) en) rfl rfl rfl) ?_
          refine lex_gr (gd_t rfl rfl rfl) rfl rfl (op_move (.inl rfl) (ev1 rfl)) ?_
          refine lex_gr (gd_t rfl rfl rfl) rfl rfl (op_move (.inl rfl) (ev1 rfl)) ?_
          refine lex_gr (gd_t rfl rfl rfl) rfl rfl (op_lenm rfl sl22 (ev2 rfl)) ?_
          refine lex_gr (gd_t rfl rfl rfl) rfl rfl (op_min rfl (ev2 rfl) (ev1 rfl)) ?_
          refine lex_gr (gd_t rfl rfl rfl) rfl rfl (op_slmtk (j := min l.length 10) rfl sl22 (ev2 rfl) (bd_some (ev2 rfl)) (fun _ => by omega) (fun _ => by omega) (fun _ => rfl)) ?_
          refine lex_gr (gd_t rfl rfl rfl) rfl rfl (dop_call [] [] [] rfl (ev1 rfl) (ec (ev2 rfl) en) rfl rfl (few_f (l.take (min l.length 10))) rfl rfl rfl rfl rfl rfl) ?_
          refine lex_gr (gd_t rfl rfl rfl) rfl rfl (op_bldD (ps := [(0, .tmp 166)]) rfl fl25 zr25 (ec (ev2 rfl) en) rfl rfl rfl) ?_
          refine lex_gr (gd_t rfl rfl rfl) rfl rfl (dop_call [] [] [] rfl (ev1 rfl) (ec (ev2 rfl) (ec (ev2 rfl) en)) rfl rfl (rsame_d (fewP (l.take (min l.length 10))) (fewP (l.take (min l.length 10))) 0 0 (by omega)) rfl rfl rfl rfl rfl rfl) ?_
          refine lex_r rfl rfl (op_and rfl (ev1 rfl) (ev3 rfl id)) ?_
          refine lex_r rfl rfl (op_move (.inr rfl) (ev1 rfl)) ?_
          refine lex_nil ?_
          refine dwp_ret ?_
          refine kend0 (rs1 rfl (rv_t rfl)) rfl ?_
          simp
      · refine dwp_hole ?_
        refine dwp_fam 4 rfl (by simp only [List.cons_append, List.nil_append, List.set_cons_zero, List.set_cons_succ]; exact rfl) ?_
        have hS0 := Bool.eq_false_iff.2 hS
        refine dwp_holes 1 (by simp only [holes, List.cons_append, List.nil_append]; exact rfl) ?_
        refine dwp_region ?_
        refine walk_r rfl rfl rfl (op_ldmw rfl tb25 (ev1 rfl) rfl rfl) ?_
        refine walk_r rfl rfl rfl (op_move (.inl rfl) (ev1 rfl)) ?_
        refine walk_w rfl rfl rfl (dop_call [4] [] [] rfl (ev1 rfl) (ec (ev1 rfl) (ec (ev1 rfl) en)) rfl rfl (Send_argF (fewP P) (fewP (l.take (min l.length 10))) L hN hS0) rfl rfl rfl rfl rfl rfl) (by simp only [upd, List.set_cons_zero, List.set_cons_succ]; exact rfl) ?_
        refine walk_r rfl rfl rfl (op_move (.inl rfl) (ev1 rfl)) ?_
        refine walk_r rfl rfl rfl (op_ext rfl (ev1 rfl) rfl) ?_
        refine walk_r rfl rfl rfl (op_ext rfl (ev1 rfl) rfl) ?_
        refine walk_w rfl rfl rfl (op_alloc 5 rfl zr25 rfl) (by simp only [upd, List.set_cons_zero, List.set_cons_succ]; exact rfl) ?_
        refine walk_s rfl rfl (op_stwa rfl tb25 (ev1 rfl) (ev1 rfl) rfl rfl rfl rfl) (by simp only [upd, List.set_cons_zero, List.set_cons_succ]; exact rfl) ?_
        refine walk_r rfl rfl rfl (op_move (.inr rfl) (ev1 rfl)) ?_
        refine walk_nil ?_
        refine dwp_seq ?_
        refine dwp_holes 1 (by simp only [holes, List.cons_append, List.nil_append]; exact rfl) ?_
        refine dwp_region ?_
        refine walk_r rfl rfl rfl (op_ldmw rfl tb25 (ev1 rfl) rfl rfl) ?_
        refine walk_w rfl rfl rfl (op_alloc 6 rfl zr25 rfl) (by simp only [upd, List.set_cons_zero, List.set_cons_succ]; exact rfl) ?_
        refine walk_s rfl rfl (op_stam rfl tb25 (ev1 rfl) (ev1 rfl) rfl rfl rfl rfl) (by simp only [upd, List.set_cons_zero, List.set_cons_succ]; exact rfl) ?_
        refine walk_r rfl rfl rfl (op_move (.inr rfl) (ev1 rfl)) ?_
        refine walk_nil ?_
        refine dwp_seq ?_
        refine dwp_seq ?_
        refine dwp_region ?_
        refine walk_r rfl rfl rfl (op_move (.inl rfl) (ev1 rfl)) ?_
        refine walk_r rfl rfl rfl (op_lenm rfl sl22 (ev1 rfl)) ?_
        refine walk_r rfl rfl rfl (op_move (.inl rfl) (ev1 rfl)) ?_
        refine walk_nil ?_
        refine dwp_block ?_
        refine dwp_loopS ⟨hs0, rfl⟩ (α := Nat) (fun k => [(22, .val (.int .i64 (eK (fewP (l.take (min l.length 10))) k))), (123, .val (.int .i64 (k : Int)))]) [(2, _), (3, _), (7, _), (9, _), (10, _), (19, _), (20, _), (21, _), (121, _), (122, _)] (fun k => [(6, .mix 25 [.slm 3 (wK (fewP P) L (fewP (l.take (min l.length 10))) k).1.length ((wK (fewP P) L (fewP (l.take (min l.length 10))) k).1.flatMap pD), .val (.int .u64 ((wK (fewP P) L (fewP (l.take (min l.length 10))) k).2 : Int))])]) [_, _, _, _, _, _, .hole] (fun k => k ≤ (fewP (l.take (min l.length 10))).length) (fun k => (fewP (l.take (min l.length 10))).length - k) 0 [0, 1, 2, 3, 4, 5, 6] (by simp) rfl ⟨rfl, rfl, rfl, rfl, rfl, rfl, rfl, rfl, rfl, rfl, trivial⟩ ⟨rfl, rfl, trivial⟩ ⟨rfl, rfl, rfl, rfl, rfl, rfl, rfl, trivial⟩ ?_
        intro k hx
        simp only [upd, List.set_cons_zero, List.set_cons_succ, List.cons_append, List.nil_append]
        have hk := hx
        refine dwp_seq ?_
        refine dwp_region ?_
        refine walk_r rfl rfl rfl (op_lss rfl (ev1 rfl) (ev1 rfl)) ?_
        refine walk_nil ?_
        refine dwp_seq ?_
        refine dwp_cond rfl (fun c12 => ?_) (fun c12 => ?_)
        · try simp only [decide_eq_true_eq, decide_eq_false_iff_not, beq_iff_eq, bne_iff_ne, beq_eq_false_iff_ne, bne_eq_false_iff_eq, Bool.not_eq_true', Bool.not_eq_false', Bool.and_eq_true, Bool.or_eq_true, Bool.or_eq_false_iff, ne_eq, Decidable.not_not, Int.not_lt, Int.not_le] at c12
          refine dwp_skip ?_
          refine dwp_seq ?_
          refine dwp_block ?_
          refine dwp_seq ?_
          have hkl : k < (fewP (l.take (min l.length 10))).length := by omega
          refine dwp_holes 1 (by simp only [holes, List.cons_append, List.nil_append]; exact rfl) ?_
          refine dwp_region ?_
          refine walk_r rfl rfl rfl (op_ixmr (k) (by decide) rfl sl22 (ev1 rfl) (ev1 rfl) (fun _ => rfl) (by omega) (fun _ => rfl)) ?_
          refine walk_r rfl rfl rfl (op_lddr rfl tb38 (ev1 rfl) rfl rfl) ?_
          refine walk_w rfl rfl rfl (op_alloc 7 rfl zr38 rfl) (by simp only [upd, List.set_cons_zero, List.set_cons_succ]; exact rfl) ?_
          refine walk_s rfl rfl (op_stam rfl tb38 (ev1 rfl) (ev1 rfl) rfl rfl rfl rfl) (by simp only [upd, List.set_cons_zero, List.set_cons_succ]; exact rfl) ?_
          refine walk_nil ?_
          refine dwp_seq ?_
          refine dwp_region ?_
          refine walk_r rfl rfl rfl (op_ldmw rfl tb25 (ev1 rfl) rfl rfl) ?_
          refine walk_r rfl rfl rfl (op_ldmw rfl tb38 (ev1 rfl) rfl rfl) ?_
          refine walk_r rfl rfl rfl (dop_call [] [] [] rfl (ev1 rfl) (ec (ev1 rfl) (ec (ev1 rfl) en)) rfl rfl (rput_f _ _ (fewP (l.take (min l.length 10)))[k]) rfl rfl rfl rfl rfl rfl) ?_
          refine walk_s rfl rfl (op_stmw rfl tb25 (ev1 rfl) (ev1 rfl) rfl rfl rfl rfl) (by simp only [upd, List.set_cons_zero, List.set_cons_succ]; exact rfl) ?_
          refine walk_nil ?_
          refine dwp_seq ?_
          refine dwp_region ?_
          refine walk_r rfl rfl rfl (op_ldmw rfl tb38 (ev1 rfl) rfl rfl) ?_
          refine walk_r rfl rfl rfl (dop_call [] [] [] rfl (ev1 rfl) (ec (ev1 rfl) en) rfl rfl (rmay_d (fewP (l.take (min l.length 10)))[k]) rfl rfl rfl rfl rfl rfl) ?_
          refine walk_r rfl rfl rfl (op_not rfl (ev1 rfl)) ?_
          refine walk_r rfl rfl rfl (op_move (.inl rfl) (ev1 rfl)) ?_
          refine walk_gr (gd_f rfl rfl rfl) rfl rfl rfl (op_fa rfl fo38_2 (ev1 rfl)) ?_
          refine walk_gr (gd_f rfl rfl rfl) rfl rfl rfl (op_ldm rfl tb4 (ev2 rfl) rfl rfl) ?_
          refine walk_r rfl rfl rfl (op_or rfl (ev1 rfl) (ev3 rfl id)) ?_
          refine walk_nil ?_
          refine dwp_cond rfl (fun cB => ?_) (fun cB => ?_)
          · have cB_ : badP (fewP (l.take (min l.length 10)))[k] = true := cB
            refine dwp_region ?_
            refine walk_r rfl rfl rfl (op_move (.inr rfl) (ev1 rfl)) ?_
            refine walk_nil ?_
            refine dwp_region ?_
            refine walk_r rfl rfl rfl (op_add' rfl (ev1 rfl) (ev1 rfl) (fun _ => IntWalk.i64_in _ (by omega))) ?_
            refine walk_r rfl rfl rfl (op_move (.inl rfl) (ev1 rfl)) ?_
            refine walk_nil ?_
            refine ⟨k + 1, [0, 1, 2, 3, 4, 5, 6], by omega, by simp only []; omega, rfl, ⟨congrArg (fun n => some (D.val (.int .i64 n))) (eK_bad hkl cB_).symm, rfl, rfl, rfl, rfl, rfl, rfl, rfl, rfl, rfl, rfl, rfl, trivial⟩, ⟨rfl, rfl, rfl, rfl, rfl, rfl, by rw [wK_succ hkl]; rfl, trivial⟩⟩
          · have cB_ : badP (fewP (l.take (min l.length 10)))[k] = false := cB
            refine dwp_skip ?_
            refine dwp_region ?_
            refine walk_r rfl rfl rfl (op_add' rfl (ev1 rfl) (ev1 rfl) (fun _ => IntWalk.i64_in _ (by omega))) ?_
            refine walk_r rfl rfl rfl (op_move (.inl rfl) (ev1 rfl)) ?_
            refine walk_nil ?_
            refine ⟨k + 1, [0, 1, 2, 3, 4, 5, 6], by omega, by simp only []; omega, rfl, ⟨congrArg (fun n => some (D.val (.int .i64 n))) (eK_no hkl cB_).symm, rfl, rfl, rfl, rfl, rfl, rfl, rfl, rfl, rfl, rfl, rfl, trivial⟩, ⟨rfl, rfl, rfl, rfl, rfl, rfl, by rw [wK_succ hkl]; rfl, trivial⟩⟩
        · try simp only [decide_eq_true_eq, decide_eq_false_iff_not, beq_iff_eq, bne_iff_ne, beq_eq_false_iff_ne, bne_eq_false_iff_eq, Bool.not_eq_true', Bool.not_eq_false', Bool.and_eq_true, Bool.or_eq_true, Bool.or_eq_false_iff, ne_eq, Decidable.not_not, Int.not_lt, Int.not_le] at c12
          refine dwp_exit ?_
          refine dwp_seq ?_
          refine dwp_seq ?_
          obtain rfl : k = (fewP (l.take (min l.length 10))).length := by omega
          have hE := eK_arg hS0
          refine dwp_region ?_
          refine walk_r rfl rfl rfl (op_move (.inl rfl) (ev1 rfl)) ?_
          refine walk_r rfl rfl rfl (op_not rfl (ev1 rfl)) ?_
          refine walk_nil ?_
          refine dwp_if_f rfl (rfl) ?_
          refine dwp_skip ?_
          refine dwp_seq ?_
          refine dwp_seq ?_
          refine dwp_region ?_
          refine walk_r rfl rfl rfl (op_move (.inl rfl) (ev1 rfl)) ?_
          refine walk_r rfl rfl rfl (op_neq rfl (ev1 rfl) (ev1 rfl)) ?_
          refine walk_nil ?_
          refine dwp_if_t rfl (by rw [hE]; rfl) ?_
          refine dwp_region ?_
          refine walk_r rfl rfl rfl (op_build0 rfl fl25 zr25) ?_
          refine walk_s rfl rfl (op_stmw rfl tb25 (ev1 rfl) (evwk (fun s v h => rep_zn h) (ev1 rfl)) rfl rfl rfl rfl) (by simp only [upd, List.set_cons_zero, List.set_cons_succ]; exact rfl) ?_
          refine walk_nil ?_
          refine dwp_seq ?_
          refine dwp_seq ?_
          refine dwp_region ?_
          refine walk_r rfl rfl rfl (op_move (.inl rfl) (ev1 rfl)) ?_
          refine walk_r rfl rfl rfl (op_move (.inl rfl) (ev1 rfl)) ?_
          refine walk_r rfl rfl rfl (op_neq rfl (ev1 rfl) (ev1 rfl)) ?_
          refine walk_r rfl rfl rfl (op_move (.inl rfl) (ev1 rfl)) ?_
          refine walk_gr (gd_f rfl rfl rfl) rfl rfl rfl (op_ldw rfl tb25 (ev1 rfl) rfl rfl) ?_
          refine walk_gr (gd_f rfl rfl rfl) rfl rfl rfl (op_ldmw rfl tb25 (ev1 rfl) rfl rfl) ?_
          refine walk_gr (gd_f rfl rfl rfl) rfl rfl rfl (dop_call [] [] [] rfl (ev1 rfl) (ec (evwk (fun s v h => rep_zn h) (ev2 rfl)) (ec (ev2 rfl) en)) rfl rfl (rsame_d [] [] 0 0 (by simp)) rfl rfl rfl rfl rfl rfl) ?_
          refine walk_gr (gd_f rfl rfl rfl) rfl rfl rfl (op_not rfl (ev2 rfl)) ?_
          refine walk_r rfl rfl rfl (op_or rfl (ev1 rfl) (ev3 rfl id)) ?_
          refine walk_nil ?_
          refine dwp_if_f rfl (by simp [hE]) ?_
          refine dwp_skip ?_
          refine dwp_seq ?_
          refine dwp_region ?_
          refine walk_r rfl rfl rfl (op_ldw rfl tb25 (ev1 rfl) rfl rfl) ?_
          refine walk_r rfl rfl rfl (dop_call [] [] [] rfl (ev1 rfl) (ec (ev1 rfl) en) rfl rfl (spoil_0) rfl rfl rfl rfl rfl rfl) ?_
          refine walk_nil ?_
          refine dwp_seq ?_
          refine dwp_draw [([2], []), ([0], []), ([], []), ([], []), ([], []), ([], []), ([], []), ([], []), ([], []), ([], []), ([], []), ([], []), ([], []), ([], []), ([], []), ([], []), ([], [])] mixed (by kernel_rfl) ?_
          refine lex_r rfl rfl (op_ldmw rfl tb25 (ev1 rfl) rfl rfl) ?_
          refine lex_r rfl rfl (op_ldmw rfl tb25 (ev1 rfl) rfl rfl) ?_
          refine lex_r rfl rfl (dop_call [] [] [] rfl (ev1 rfl) (ec (ev1 rfl) en) rfl rfl (own_d P L) rfl rfl rfl rfl rfl rfl) ?_
          refine lex_r rfl rfl (dop_call [] [] [] rfl (ev1 rfl) (ec (ev1 rfl) (ec (ev1 rfl) en)) rfl rfl (rsame_d (fewP P) (fewP P) L L (by omega)) rfl rfl rfl rfl rfl rfl) ?_
          refine lex_r rfl rfl (op_move (.inl rfl) (ev1 rfl)) ?_
          refine lex_gr (gd_t rfl rfl rfl) rfl rfl (op_move (.inl rfl) (ev1 rfl)) ?_
          refine lex_gr (gd_t rfl rfl rfl) rfl rfl (op_bldD (ps := [(0, .tmp 159)]) rfl fl25 zr25 (ec (ev2 rfl) en) rfl rfl rfl) ?_
          refine lex_gr (gd_t rfl rfl rfl) rfl rfl (op_move (.inl rfl) (ev1 rfl)) ?_
          refine lex_gr (gd_t rfl rfl rfl) rfl rfl (op_move (.inl rfl) (ev1 rfl)) ?_
          refine lex_gr (gd_t rfl rfl rfl) rfl rfl (op_lenm rfl sl22 (ev2 rfl)) ?_
          refine lex_gr (gd_t rfl rfl rfl) rfl rfl (op_min rfl (ev2 rfl) (ev1 rfl)) ?_
          refine lex_gr (gd_t rfl rfl rfl) rfl rfl (op_slmtk (j := min l.length 10) rfl sl22 (ev2 rfl) (bd_some (ev2 rfl)) (fun _ => by omega) (fun _ => by omega) (fun _ => rfl)) ?_
          refine lex_gr (gd_t rfl rfl rfl) rfl rfl (dop_call [] [] [] rfl (ev1 rfl) (ec (ev2 rfl) en) rfl rfl (few_f (l.take (min l.length 10))) rfl rfl rfl rfl rfl rfl) ?_
          refine lex_gr (gd_t rfl rfl rfl) rfl rfl (op_bldD (ps := [(0, .tmp 166)]) rfl fl25 zr25 (ec (ev2 rfl) en) rfl rfl rfl) ?_
          refine lex_gr (gd_t rfl rfl rfl) rfl rfl (dop_call [] [] [] rfl (ev1 rfl) (ec (ev2 rfl) (ec (ev2 rfl) en)) rfl rfl (rsame_d (fewP (l.take (min l.length 10))) (fewP (l.take (min l.length 10))) 0 0 (by omega)) rfl rfl rfl rfl rfl rfl) ?_
          refine lex_r rfl rfl (op_and rfl (ev1 rfl) (ev3 rfl id)) ?_
          refine lex_r rfl rfl (op_move (.inr rfl) (ev1 rfl)) ?_
          refine lex_nil ?_
          refine dwp_ret ?_
          refine kend0 (rs1 rfl (rv_t rfl)) rfl ?_
          simp
  · have hN0 : netB (fewP P) (L : Int) = false := Bool.eq_false_iff.2 hN
    refine dwp_region ?_
    refine walk_r rfl rfl rfl (op_ldmw rfl tb25 (ev1 rfl) rfl rfl) ?_
    refine walk_r rfl rfl rfl (dop_call [] [] [] rfl (ev1 rfl) (ec (ev1 rfl) en) rfl rfl (rright_t (fewP P) L (by omega) hN0) rfl rfl rfl rfl rfl rfl) ?_
    refine walk_r rfl rfl rfl (op_move (.inr rfl) (ev1 rfl)) ?_
    refine walk_nil ?_
    refine dwp_seq ?_
    refine dwp_seq ?_
    refine dwp_region ?_
    refine walk_r rfl rfl rfl (op_ldmw rfl tb25 (ev1 rfl) rfl rfl) ?_
    refine walk_r rfl rfl rfl (dop_call [] [] [] rfl (ev1 rfl) (ec (ev1 rfl) en) rfl rfl (check_no (fewP P) _ hN0) rfl rfl rfl rfl rfl rfl) ?_
    refine walk_r rfl rfl rfl (op_move (.inr rfl) (ev1 rfl)) ?_
    refine walk_nil ?_
    refine dwp_seq ?_
    refine dwp_draw [([], []), ([], []), ([], []), ([], []), ([], []), ([], []), ([], []), ([], []), ([], []), ([], []), ([], []), ([], []), ([], []), ([2], []), ([3], []), ([], []), ([2], []), ([3], []), ([], []), ([], []), ([], []), ([], []), ([2], []), ([0], []), ([], []), ([], []), ([], []), ([], []), ([], []), ([], []), ([], []), ([], []), ([], []), ([], [])] mixed (by kernel_rfl) ?_
    refine lex_r rfl rfl (op_move (.inl rfl) (ev1 rfl)) ?_
    refine lex_r rfl rfl (op_eql rfl (ev1 rfl) (ev1 rfl)) ?_
    refine lex_r rfl rfl (op_move (.inl rfl) (ev1 rfl)) ?_
    refine lex_r rfl rfl (op_neb rfl un4 (ev1 rfl) (ev1 rfl)) ?_
    refine lex_r rfl rfl (op_move (.inl rfl) (ev1 rfl)) ?_
    refine lex_gr (gd_f rfl rfl rfl) rfl rfl (op_move (.inl rfl) (ev1 rfl)) ?_
    refine lex_gr (gd_f rfl rfl rfl) rfl rfl (op_neq rfl (ev2 rfl) (ev1 rfl)) ?_
    refine lex_gr (gd_f rfl rfl rfl) rfl rfl (op_move (.inl rfl) (ev2 rfl)) ?_
    refine lex_gr (gd_tt rfl rfl rfl) rfl rfl (op_move (.inl rfl) (ev1 rfl)) ?_
    refine lex_gr (gd_tt rfl rfl rfl) rfl rfl (op_neq rfl (ev2 rfl) (ev1 rfl)) ?_
    refine lex_gr (gd_f rfl rfl rfl) rfl rfl (op_and rfl (ev2 rfl) (ev2 rfl)) ?_
    refine lex_r rfl rfl (op_or rfl (ev1 rfl) (ev3 rfl id)) ?_
    refine lex_r rfl rfl (op_move (.inl rfl) (ev1 rfl)) ?_
    refine lex_gr (gd_f rfl rfl rfl) rfl rfl (op_ldmw rfl tb25 (ev1 rfl) rfl rfl) ?_
    refine lex_gr (gd_f rfl rfl rfl) rfl rfl (op_ldmw rfl tb25 (ev1 rfl) rfl rfl) ?_
    refine lex_gr (gd_f rfl rfl rfl) rfl rfl (dop_call [] [] [] rfl (ev1 rfl) (ec (ev2 rfl) (ec (ev2 rfl) en)) rfl rfl (nsame_d (fewP P) (fewP Q) L M hAn hBn) rfl rfl rfl rfl rfl rfl) ?_
    refine lex_gr (gd_f rfl rfl rfl) rfl rfl (op_ldmw rfl tb25 (ev1 rfl) rfl rfl) ?_
    refine lex_gr (gd_f rfl rfl rfl) rfl rfl (op_ldmw rfl tb25 (ev1 rfl) rfl rfl) ?_
    refine lex_gr (gd_f rfl rfl rfl) rfl rfl (dop_call [] [] [] rfl (ev1 rfl) (ec (ev2 rfl) (ec (ev2 rfl) en)) rfl rfl (rsame_d (fewP P) (fewP Q) L M (by omega)) rfl rfl rfl rfl rfl rfl) ?_
    refine lex_gr (gd_f rfl rfl rfl) rfl rfl (op_neb rfl un4 (ev2 rfl) (ev2 rfl)) ?_
    refine lex_r rfl rfl (op_or rfl (ev1 rfl) (ev3 rfl id)) ?_
    refine lex_r rfl rfl (op_move (.inl rfl) (ev1 rfl)) ?_
    refine lex_gr (gd_f rfl rfl rfl) rfl rfl (op_ldmw rfl tb25 (ev1 rfl) rfl rfl) ?_
    refine lex_gr (gd_f rfl rfl rfl) rfl rfl (op_ldmw rfl tb25 (ev1 rfl) rfl rfl) ?_
    refine lex_gr (gd_f rfl rfl rfl) rfl rfl (dop_call [] [] [] rfl (ev1 rfl) (ec (ev2 rfl) en) rfl rfl (own_d P L) rfl rfl rfl rfl rfl rfl) ?_
    refine lex_gr (gd_f rfl rfl rfl) rfl rfl (dop_call [] [] [] rfl (ev1 rfl) (ec (ev2 rfl) (ec (ev2 rfl) en)) rfl rfl (nsame_d (fewP P) (fewP P) L L hAn hAn) rfl rfl rfl rfl rfl rfl) ?_
    refine lex_gr (gd_f rfl rfl rfl) rfl rfl (op_not rfl (ev2 rfl)) ?_
    refine lex_r rfl rfl (op_or rfl (ev1 rfl) (ev3 rfl id)) ?_
    refine lex_r rfl rfl (op_move (.inl rfl) (ev1 rfl)) ?_
    refine lex_gr (gd_f rfl rfl rfl) rfl rfl (dop_call [] [] [] rfl (ev1 rfl) en rfl rfl (new_f) rfl rfl rfl rfl rfl rfl) ?_
    refine lex_gr (gd_f rfl rfl rfl) rfl rfl (op_build0 rfl fl25 zr25) ?_
    refine lex_gr (gd_f rfl rfl rfl) rfl rfl (dop_call [] [] [] rfl (ev1 rfl) (ec (ev2 rfl) (ec (evwk (fun s v h => rep_zn h) (ev2 rfl)) en)) rfl rfl (rsame_d [] [] 0 0 (by simp)) rfl rfl rfl rfl rfl rfl) ?_
    refine lex_gr (gd_f rfl rfl rfl) rfl rfl (op_not rfl (ev2 rfl)) ?_
    refine lex_r rfl rfl (op_or rfl (ev1 rfl) (ev3 rfl id)) ?_
    refine lex_nil ?_
    refine dwp_if_f rfl (by simp) ?_
    refine dwp_skip ?_
    refine dwp_seq ?_
    refine dwp_seq ?_
    refine dwp_region ?_
    refine walk_r rfl rfl rfl (op_move (.inr rfl) (ev1 rfl)) ?_
    refine walk_nil ?_
    refine dwp_block ?_
    refine dwp_loopS ⟨hs0, rfl⟩ (α := Int) (fun z => [(12, .val (.int .i64 z))]) [(2, _), (3, _), (7, _), (9, _), (10, _)] (fun z => []) [_, _, _, _] (fun z => -1 ≤ z ∧ z ≤ 10) (fun z => (10 - z).toNat) (-1) [0, 1, 2, 3] (by simp) rfl ⟨rfl, rfl, rfl, rfl, rfl, trivial⟩ ⟨rfl, trivial⟩ ⟨rfl, rfl, rfl, rfl, trivial⟩ ?_
    intro z hx
    simp only [upd, List.set_cons_zero, List.set_cons_succ, List.cons_append, List.nil_append]
    obtain ⟨hz1, hz2⟩ := hx
    refine dwp_seq ?_
    refine dwp_seq ?_
    refine dwp_region ?_
    refine walk_r rfl rfl rfl (op_move (.inl rfl) (ev1 rfl)) ?_
    refine walk_r rfl rfl rfl (op_leq rfl (ev1 rfl) (ev1 rfl)) ?_
    refine walk_nil ?_
    refine dwp_cond rfl (fun c18 => ?_) (fun c18 => ?_)
    · try simp only [decide_eq_true_eq, decide_eq_false_iff_not, beq_iff_eq, bne_iff_ne, beq_eq_false_iff_ne, bne_eq_false_iff_eq, Bool.not_eq_true', Bool.not_eq_false', Bool.and_eq_true, Bool.or_eq_true, Bool.or_eq_false_iff, ne_eq, Decidable.not_not, Int.not_lt, Int.not_le] at c18
      refine dwp_skip ?_
      refine dwp_seq ?_
      refine dwp_block ?_
      refine dwp_seq ?_
      refine dwp_region ?_
      refine walk_r rfl rfl rfl (op_ldmw rfl tb25 (ev1 rfl) rfl rfl) ?_
      refine walk_r rfl rfl rfl (op_move (.inl rfl) (ev1 rfl)) ?_
      refine walk_r rfl rfl rfl (dop_call [] [] [] rfl (ev1 rfl) (ec (ev1 rfl) (ec (ev1 rfl) en)) rfl rfl (First_noN (fewP P) L z hN0) rfl rfl rfl rfl rfl rfl) ?_
      refine walk_r rfl rfl rfl (op_move (.inl rfl) (ev1 rfl)) ?_
      refine walk_r rfl rfl rfl (op_ext rfl (ev1 rfl) rfl) ?_
      refine walk_r rfl rfl rfl (op_ext rfl (ev1 rfl) rfl) ?_
      refine walk_r rfl rfl rfl (op_move (.inr rfl) (ev1 rfl)) ?_
      refine walk_r rfl rfl rfl (op_move (.inr rfl) (ev1 rfl)) ?_
      refine walk_nil ?_
      refine dwp_seq ?_
      refine dwp_region ?_
      refine walk_r rfl rfl rfl (op_move (.inr rfl) (ev1 rfl)) ?_
      refine walk_r rfl rfl rfl (op_move (.inr rfl) (ev1 rfl)) ?_
      refine walk_nil ?_
      refine dwp_seq ?_
      refine dwp_seq ?_
      refine dwp_region ?_
      refine walk_r rfl rfl rfl (op_fa rfl fo25_0 (ev1 rfl)) ?_
      refine walk_r rfl rfl rfl (op_ldm rfl tb22 (ev1 rfl) rfl rfl) ?_
      refine walk_r rfl rfl rfl (op_lenm rfl sl22 (ev1 rfl)) ?_
      refine walk_r rfl rfl rfl (op_move (.inl rfl) (ev1 rfl)) ?_
      refine walk_nil ?_
      refine dwp_block ?_
      refine dwp_loopS ⟨hs0, rfl⟩ (α := Nat) (fun i => [(88, .val (.int .i64 (i : Int)))]) [(2, _), (3, _), (7, _), (9, _), (10, _), (12, _), (13, _), (14, _), (15, _), (16, _), (86, _), (87, _)] (fun i => []) [_, _, _, _] (fun i => i ≤ (fewP P).length) (fun i => (fewP P).length - i) 0 [0, 1, 2, 3] (by simp) rfl ⟨rfl, rfl, rfl, rfl, rfl, rfl, rfl, rfl, rfl, rfl, rfl, rfl, trivial⟩ ⟨rfl, trivial⟩ ⟨rfl, rfl, rfl, rfl, trivial⟩ ?_
      intro i hx
      simp only [upd, List.set_cons_zero, List.set_cons_succ, List.cons_append, List.nil_append]
      have hi := hx
      refine dwp_seq ?_
      refine dwp_region ?_
      refine walk_r rfl rfl rfl (op_lss rfl (ev1 rfl) (ev1 rfl)) ?_
      refine walk_nil ?_
      refine dwp_seq ?_
      refine dwp_cond rfl (fun c19 => ?_) (fun c19 => ?_)
      · try simp only [decide_eq_true_eq, decide_eq_false_iff_not, beq_iff_eq, bne_iff_ne, beq_eq_false_iff_ne, bne_eq_false_iff_eq, Bool.not_eq_true', Bool.not_eq_false', Bool.and_eq_true, Bool.or_eq_true, Bool.or_eq_false_iff, ne_eq, Decidable.not_not, Int.not_lt, Int.not_le] at c19
        refine dwp_skip ?_
        refine dwp_seq ?_
        refine dwp_block ?_
        refine dwp_seq ?_
        have hil : i < (fewP P).length := by omega
        refine dwp_holes 1 (by simp only [holes, List.cons_append, List.nil_append]; exact rfl) ?_
        refine dwp_region ?_
        refine walk_r rfl rfl rfl (op_move (.inl rfl) (ev1 rfl)) ?_
        refine walk_r rfl rfl rfl (op_ixmr (i) (by decide) rfl sl22 (ev1 rfl) (ev1 rfl) (fun _ => rfl) (by omega) (fun _ => rfl)) ?_
        refine walk_r rfl rfl rfl (op_lddr rfl tb38 (ev1 rfl) rfl rfl) ?_
        refine walk_w rfl rfl rfl (op_alloc 4 rfl zr38 rfl) (by simp only [upd, List.set_cons_zero, List.set_cons_succ]; exact rfl) ?_
        refine walk_r rfl rfl rfl (op_move (.inr rfl) (ev1 rfl)) ?_
        refine walk_s rfl rfl (op_stam rfl tb38 (ev1 rfl) (ev1 rfl) rfl rfl rfl rfl) (by simp only [upd, List.set_cons_zero, List.set_cons_succ]; exact rfl) ?_
        refine walk_nil ?_
        refine dwp_seq ?_
        refine dwp_region ?_
        refine walk_r rfl rfl rfl (op_move (.inl rfl) (ev1 rfl)) ?_
        refine walk_r rfl rfl rfl (op_move (.inl rfl) (ev1 rfl)) ?_
        refine walk_gr (gd_t rfl rfl rfl) rfl rfl rfl (op_move (.inl rfl) (ev1 rfl)) ?_
        refine walk_gr (gd_t rfl rfl rfl) rfl rfl rfl (op_not rfl (ev2 rfl)) ?_
        refine walk_r rfl rfl rfl (op_and rfl (ev1 rfl) (ev3 rfl id)) ?_
        refine walk_r rfl rfl rfl (op_move (.inl rfl) (ev1 rfl)) ?_
        refine walk_gr (gd_t rfl rfl rfl) rfl rfl rfl (op_fa rfl fo38_0 (ev1 rfl)) ?_
        refine walk_gr (gd_t rfl rfl rfl) rfl rfl rfl (op_ldm rfl tb3 (ev2 rfl) rfl rfl) ?_
        refine walk_gr (gd_t rfl rfl rfl) rfl rfl rfl (op_move (.inl rfl) (ev1 rfl)) ?_
        refine walk_gr (gd_t rfl rfl rfl) rfl rfl rfl (op_eql rfl (ev2 rfl) (ev2 rfl)) ?_
        refine walk_r rfl rfl rfl (op_and rfl (ev1 rfl) (ev3 rfl id)) ?_
        refine walk_nil ?_
        refine dwp_if_f rfl (rfl) ?_
        refine dwp_skip ?_
        refine dwp_region ?_
        refine walk_r rfl rfl rfl (op_add' rfl (ev1 rfl) (ev1 rfl) (fun _ => IntWalk.i64_in _ (by omega))) ?_
        refine walk_r rfl rfl rfl (op_move (.inl rfl) (ev1 rfl)) ?_
        refine walk_nil ?_
        refine ⟨i + 1, [0, 1, 2, 3], by omega, by simp only []; omega, rfl, ⟨rfl, rfl, rfl, rfl, rfl, rfl, rfl, rfl, rfl, rfl, rfl, rfl, rfl, trivial⟩, ⟨rfl, rfl, rfl, rfl, trivial⟩⟩
      · try simp only [decide_eq_true_eq, decide_eq_false_iff_not, beq_iff_eq, bne_iff_ne, beq_eq_false_iff_ne, bne_eq_false_iff_eq, Bool.not_eq_true', Bool.not_eq_false', Bool.and_eq_true, Bool.or_eq_true, Bool.or_eq_false_iff, ne_eq, Decidable.not_not, Int.not_lt, Int.not_le] at c19
        refine dwp_exit ?_
        refine dwp_seq ?_
        obtain rfl : i = (fewP P).length := by omega
        refine dwp_region ?_
        refine walk_r rfl rfl rfl (op_move (.inl rfl) (ev1 rfl)) ?_
        refine walk_r rfl rfl rfl (op_move (.inl rfl) (ev1 rfl)) ?_
        refine walk_r rfl rfl rfl (op_neq rfl (ev1 rfl) (ev1 rfl)) ?_
        refine walk_r rfl rfl rfl (op_move (.inl rfl) (ev1 rfl)) ?_
        refine walk_gr (gd_f rfl rfl rfl) rfl rfl rfl (op_move (.inl rfl) (ev1 rfl)) ?_
        refine walk_gr (gd_f rfl rfl rfl) rfl rfl rfl (op_move (.inl rfl) (ev1 rfl)) ?_
        refine walk_gr (gd_f rfl rfl rfl) rfl rfl rfl (op_neb rfl un4 (ev2 rfl) (ev2 rfl)) ?_
        refine walk_r rfl rfl rfl (op_or rfl (ev1 rfl) (ev3 rfl id)) ?_
        refine walk_nil ?_
        refine dwp_if_f rfl (rfl) ?_
        refine dwp_skip ?_
        refine dwp_region ?_
        refine walk_r rfl rfl rfl (op_move (.inl rfl) (ev1 rfl)) ?_
        refine walk_r rfl rfl rfl (op_add' rfl (ev1 rfl) (ev1 rfl) (fun _ => IntWalk.i64_in _ (by omega))) ?_
        refine walk_r rfl rfl rfl (op_move (.inr rfl) (ev1 rfl)) ?_
        refine walk_nil ?_
        refine ⟨z + 1, [0, 1, 2, 3], by omega, by simp only []; omega, rfl, ⟨rfl, rfl, rfl, rfl, rfl, rfl, trivial⟩, ⟨rfl, rfl, rfl, rfl, trivial⟩⟩
    · try simp only [decide_eq_true_eq, decide_eq_false_iff_not, beq_iff_eq, bne_iff_ne, beq_eq_false_iff_ne, bne_eq_false_iff_eq, Bool.not_eq_true', Bool.not_eq_false', Bool.and_eq_true, Bool.or_eq_true, Bool.or_eq_false_iff, ne_eq, Decidable.not_not, Int.not_lt, Int.not_le] at c18
      refine dwp_exit ?_
      refine dwp_seq ?_
      refine dwp_hole ?_
      refine dwp_fam 4 rfl (by simp only [List.cons_append, List.nil_append, List.set_cons_zero, List.set_cons_succ]; exact rfl) ?_
      refine dwp_holes 1 (by simp only [holes, List.cons_append, List.nil_append]; exact rfl) ?_
      refine dwp_region ?_
      refine walk_r rfl rfl rfl (op_ldmw rfl tb25 (ev1 rfl) rfl rfl) ?_
      refine walk_r rfl rfl rfl (op_move (.inl rfl) (ev1 rfl)) ?_
      refine walk_w rfl rfl rfl (dop_call [4] [] [] rfl (ev1 rfl) (ec (ev1 rfl) (ec (ev1 rfl) en)) rfl rfl (Send_noF (fewP P) (fewP (l.take (min l.length 10))) L hN0 _) rfl rfl rfl rfl rfl rfl) (by simp only [upd, List.set_cons_zero, List.set_cons_succ]; exact rfl) ?_
      refine walk_r rfl rfl rfl (op_move (.inl rfl) (ev1 rfl)) ?_
      refine walk_r rfl rfl rfl (op_ext rfl (ev1 rfl) rfl) ?_
      refine walk_r rfl rfl rfl (op_ext rfl (ev1 rfl) rfl) ?_
      refine walk_w rfl rfl rfl (op_alloc 5 rfl zr25 rfl) (by simp only [upd, List.set_cons_zero, List.set_cons_succ]; exact rfl) ?_
      refine walk_s rfl rfl (op_stwa rfl tb25 (ev1 rfl) (ev1 rfl) rfl rfl rfl rfl) (by simp only [upd, List.set_cons_zero, List.set_cons_succ]; exact rfl) ?_
      refine walk_r rfl rfl rfl (op_move (.inr rfl) (ev1 rfl)) ?_
      refine walk_nil ?_
      refine dwp_seq ?_
      refine dwp_holes 1 (by simp only [holes, List.cons_append, List.nil_append]; exact rfl) ?_
      refine dwp_region ?_
      refine walk_r rfl rfl rfl (op_ldmw rfl tb25 (ev1 rfl) rfl rfl) ?_
      refine walk_w rfl rfl rfl (op_alloc 6 rfl zr25 rfl) (by simp only [upd, List.set_cons_zero, List.set_cons_succ]; exact rfl) ?_
      refine walk_s rfl rfl (op_stam rfl tb25 (ev1 rfl) (ev1 rfl) rfl rfl rfl rfl) (by simp only [upd, List.set_cons_zero, List.set_cons_succ]; exact rfl) ?_
      refine walk_r rfl rfl rfl (op_move (.inr rfl) (ev1 rfl)) ?_
      refine walk_nil ?_
      refine dwp_seq ?_
      refine dwp_seq ?_
      refine dwp_region ?_
      refine walk_r rfl rfl rfl (op_move (.inl rfl) (ev1 rfl)) ?_
      refine walk_r rfl rfl rfl (op_lenm rfl sl22 (ev1 rfl)) ?_
      refine walk_r rfl rfl rfl (op_move (.inl rfl) (ev1 rfl)) ?_
      refine walk_nil ?_
      refine dwp_block ?_
      refine dwp_loopS ⟨hs0, rfl⟩ (α := Nat) (fun k => [(22, .val (.int .i64 (eK (fewP (l.take (min l.length 10))) k))), (123, .val (.int .i64 (k : Int)))]) [(2, _), (3, _), (7, _), (9, _), (10, _), (19, _), (20, _), (21, _), (121, _), (122, _)] (fun k => [(6, .mix 25 [.slm 3 (wK (fewP P) L (fewP (l.take (min l.length 10))) k).1.length ((wK (fewP P) L (fewP (l.take (min l.length 10))) k).1.flatMap pD), .val (.int .u64 ((wK (fewP P) L (fewP (l.take (min l.length 10))) k).2 : Int))])]) [_, _, _, _, _, _, .hole] (fun k => k ≤ (fewP (l.take (min l.length 10))).length) (fun k => (fewP (l.take (min l.length 10))).length - k) 0 [0, 1, 2, 3, 4, 5, 6] (by simp) rfl ⟨rfl, rfl, rfl, rfl, rfl, rfl, rfl, rfl, rfl, rfl, trivial⟩ ⟨rfl, rfl, trivial⟩ ⟨rfl, rfl, rfl, rfl, rfl, rfl, rfl, trivial⟩ ?_
      intro k hx
      simp only [upd, List.set_cons_zero, List.set_cons_succ, List.cons_append, List.nil_append]
      have hk := hx
      refine dwp_seq ?_
      refine dwp_region ?_
      refine walk_r rfl rfl rfl (op_lss rfl (ev1 rfl) (ev1 rfl)) ?_
      refine walk_nil ?_
      refine dwp_seq ?_
      refine dwp_cond rfl (fun c22 => ?_) (fun c22 => ?_)
      · try simp only [decide_eq_true_eq, decide_eq_false_iff_not, beq_iff_eq, bne_iff_ne, beq_eq_false_iff_ne, bne_eq_false_iff_eq, Bool.not_eq_true', Bool.not_eq_false', Bool.and_eq_true, Bool.or_eq_true, Bool.or_eq_false_iff, ne_eq, Decidable.not_not, Int.not_lt, Int.not_le] at c22
        refine dwp_skip ?_
        refine dwp_seq ?_
        refine dwp_block ?_
        refine dwp_seq ?_
        have hkl : k < (fewP (l.take (min l.length 10))).length := by omega
        refine dwp_holes 1 (by simp only [holes, List.cons_append, List.nil_append]; exact rfl) ?_
        refine dwp_region ?_
        refine walk_r rfl rfl rfl (op_ixmr (k) (by decide) rfl sl22 (ev1 rfl) (ev1 rfl) (fun _ => rfl) (by omega) (fun _ => rfl)) ?_
        refine walk_r rfl rfl rfl (op_lddr rfl tb38 (ev1 rfl) rfl rfl) ?_
        refine walk_w rfl rfl rfl (op_alloc 7 rfl zr38 rfl) (by simp only [upd, List.set_cons_zero, List.set_cons_succ]; exact rfl) ?_
        refine walk_s rfl rfl (op_stam rfl tb38 (ev1 rfl) (ev1 rfl) rfl rfl rfl rfl) (by simp only [upd, List.set_cons_zero, List.set_cons_succ]; exact rfl) ?_
        refine walk_nil ?_
        refine dwp_seq ?_
        refine dwp_region ?_
        refine walk_r rfl rfl rfl (op_ldmw rfl tb25 (ev1 rfl) rfl rfl) ?_
        refine walk_r rfl rfl rfl (op_ldmw rfl tb38 (ev1 rfl) rfl rfl) ?_
        refine walk_r rfl rfl rfl (dop_call [] [] [] rfl (ev1 rfl) (ec (ev1 rfl) (ec (ev1 rfl) en)) rfl rfl (rput_f _ _ (fewP (l.take (min l.length 10)))[k]) rfl rfl rfl rfl rfl rfl) ?_
        refine walk_s rfl rfl (op_stmw rfl tb25 (ev1 rfl) (ev1 rfl) rfl rfl rfl rfl) (by simp only [upd, List.set_cons_zero, List.set_cons_succ]; exact rfl) ?_
        refine walk_nil ?_
        refine dwp_seq ?_
        refine dwp_region ?_
        refine walk_r rfl rfl rfl (op_ldmw rfl tb38 (ev1 rfl) rfl rfl) ?_
        refine walk_r rfl rfl rfl (dop_call [] [] [] rfl (ev1 rfl) (ec (ev1 rfl) en) rfl rfl (rmay_d (fewP (l.take (min l.length 10)))[k]) rfl rfl rfl rfl rfl rfl) ?_
        refine walk_r rfl rfl rfl (op_not rfl (ev1 rfl)) ?_
        refine walk_r rfl rfl rfl (op_move (.inl rfl) (ev1 rfl)) ?_
        refine walk_gr (gd_f rfl rfl rfl) rfl rfl rfl (op_fa rfl fo38_2 (ev1 rfl)) ?_
        refine walk_gr (gd_f rfl rfl rfl) rfl rfl rfl (op_ldm rfl tb4 (ev2 rfl) rfl rfl) ?_
        refine walk_r rfl rfl rfl (op_or rfl (ev1 rfl) (ev3 rfl id)) ?_
        refine walk_nil ?_
        refine dwp_cond rfl (fun cB => ?_) (fun cB => ?_)
        · have cB_ : badP (fewP (l.take (min l.length 10)))[k] = true := cB
          refine dwp_region ?_
          refine walk_r rfl rfl rfl (op_move (.inr rfl) (ev1 rfl)) ?_
          refine walk_nil ?_
          refine dwp_region ?_
          refine walk_r rfl rfl rfl (op_add' rfl (ev1 rfl) (ev1 rfl) (fun _ => IntWalk.i64_in _ (by omega))) ?_
          refine walk_r rfl rfl rfl (op_move (.inl rfl) (ev1 rfl)) ?_
          refine walk_nil ?_
          refine ⟨k + 1, [0, 1, 2, 3, 4, 5, 6], by omega, by simp only []; omega, rfl, ⟨congrArg (fun n => some (D.val (.int .i64 n))) (eK_bad hkl cB_).symm, rfl, rfl, rfl, rfl, rfl, rfl, rfl, rfl, rfl, rfl, rfl, trivial⟩, ⟨rfl, rfl, rfl, rfl, rfl, rfl, by rw [wK_succ hkl]; rfl, trivial⟩⟩
        · have cB_ : badP (fewP (l.take (min l.length 10)))[k] = false := cB
          refine dwp_skip ?_
          refine dwp_region ?_
          refine walk_r rfl rfl rfl (op_add' rfl (ev1 rfl) (ev1 rfl) (fun _ => IntWalk.i64_in _ (by omega))) ?_
          refine walk_r rfl rfl rfl (op_move (.inl rfl) (ev1 rfl)) ?_
          refine walk_nil ?_
          refine ⟨k + 1, [0, 1, 2, 3, 4, 5, 6], by omega, by simp only []; omega, rfl, ⟨congrArg (fun n => some (D.val (.int .i64 n))) (eK_no hkl cB_).symm, rfl, rfl, rfl, rfl, rfl, rfl, rfl, rfl, rfl, rfl, rfl, trivial⟩, ⟨rfl, rfl, rfl, rfl, rfl, rfl, by rw [wK_succ hkl]; rfl, trivial⟩⟩
      · try simp only [decide_eq_true_eq, decide_eq_false_iff_not, beq_iff_eq, bne_iff_ne, beq_eq_false_iff_ne, bne_eq_false_iff_eq, Bool.not_eq_true', Bool.not_eq_false', Bool.and_eq_true, Bool.or_eq_true, Bool.or_eq_false_iff, ne_eq, Decidable.not_not, Int.not_lt, Int.not_le] at c22
        refine dwp_exit ?_
        refine dwp_seq ?_
        refine dwp_seq ?_
        obtain rfl : k = (fewP (l.take (min l.length 10))).length := by omega
        refine dwp_region ?_
        refine walk_r rfl rfl rfl (op_move (.inl rfl) (ev1 rfl)) ?_
        refine walk_r rfl rfl rfl (op_not rfl (ev1 rfl)) ?_
        refine walk_nil ?_
        refine dwp_if_t rfl (rfl) ?_
        refine dwp_region ?_
        refine walk_r rfl rfl rfl (op_move (.inr rfl) (ev1 rfl)) ?_
        refine walk_nil ?_
        refine dwp_seq ?_
        refine dwp_seq ?_
        refine dwp_region ?_
        refine walk_r rfl rfl rfl (op_move (.inl rfl) (ev1 rfl)) ?_
        refine walk_r rfl rfl rfl (op_neq rfl (ev1 rfl) (ev1 rfl)) ?_
        refine walk_nil ?_
        refine dwp_if_t rfl (rfl) ?_
        refine dwp_region ?_
        refine walk_r rfl rfl rfl (op_build0 rfl fl25 zr25) ?_
        refine walk_s rfl rfl (op_stmw rfl tb25 (ev1 rfl) (evwk (fun s v h => rep_zn h) (ev1 rfl)) rfl rfl rfl rfl) (by simp only [upd, List.set_cons_zero, List.set_cons_succ]; exact rfl) ?_
        refine walk_nil ?_
        refine dwp_seq ?_
        refine dwp_seq ?_
        refine dwp_region ?_
        refine walk_r rfl rfl rfl (op_move (.inl rfl) (ev1 rfl)) ?_
        refine walk_r rfl rfl rfl (op_move (.inl rfl) (ev1 rfl)) ?_
        refine walk_r rfl rfl rfl (op_neq rfl (ev1 rfl) (ev1 rfl)) ?_
        refine walk_r rfl rfl rfl (op_move (.inl rfl) (ev1 rfl)) ?_
        refine walk_gr (gd_f rfl rfl rfl) rfl rfl rfl (op_ldw rfl tb25 (ev1 rfl) rfl rfl) ?_
        refine walk_gr (gd_f rfl rfl rfl) rfl rfl rfl (op_ldmw rfl tb25 (ev1 rfl) rfl rfl) ?_
        refine walk_gr (gd_f rfl rfl rfl) rfl rfl rfl (dop_call [] [] [] rfl (ev1 rfl) (ec (evwk (fun s v h => rep_zn h) (ev2 rfl)) (ec (ev2 rfl) en)) rfl rfl (rsame_d [] [] 0 0 (by simp)) rfl rfl rfl rfl rfl rfl) ?_
        refine walk_gr (gd_f rfl rfl rfl) rfl rfl rfl (op_not rfl (ev2 rfl)) ?_
        refine walk_r rfl rfl rfl (op_or rfl (ev1 rfl) (ev3 rfl id)) ?_
        refine walk_nil ?_
        refine dwp_if_f rfl (by simp) ?_
        refine dwp_skip ?_
        refine dwp_seq ?_
        refine dwp_region ?_
        refine walk_r rfl rfl rfl (op_ldw rfl tb25 (ev1 rfl) rfl rfl) ?_
        refine walk_r rfl rfl rfl (dop_call [] [] [] rfl (ev1 rfl) (ec (ev1 rfl) en) rfl rfl (spoil_0) rfl rfl rfl rfl rfl rfl) ?_
        refine walk_nil ?_
        refine dwp_seq ?_
        refine dwp_draw [([2], []), ([0], []), ([], []), ([], []), ([], []), ([], []), ([], []), ([], []), ([], []), ([], []), ([], []), ([], []), ([], []), ([], []), ([], []), ([], []), ([], [])] mixed (by kernel_rfl) ?_
        refine lex_r rfl rfl (op_ldmw rfl tb25 (ev1 rfl) rfl rfl) ?_
        refine lex_r rfl rfl (op_ldmw rfl tb25 (ev1 rfl) rfl rfl) ?_
        refine lex_r rfl rfl (dop_call [] [] [] rfl (ev1 rfl) (ec (ev1 rfl) en) rfl rfl (own_d P L) rfl rfl rfl rfl rfl rfl) ?_
        refine lex_r rfl rfl (dop_call [] [] [] rfl (ev1 rfl) (ec (ev1 rfl) (ec (ev1 rfl) en)) rfl rfl (rsame_d (fewP P) (fewP P) L L (by omega)) rfl rfl rfl rfl rfl rfl) ?_
        refine lex_r rfl rfl (op_move (.inl rfl) (ev1 rfl)) ?_
        refine lex_gr (gd_t rfl rfl rfl) rfl rfl (op_move (.inl rfl) (ev1 rfl)) ?_
        refine lex_gr (gd_t rfl rfl rfl) rfl rfl (op_bldD (ps := [(0, .tmp 159)]) rfl fl25 zr25 (ec (ev2 rfl) en) rfl rfl rfl) ?_
        refine lex_gr (gd_t rfl rfl rfl) rfl rfl (op_move (.inl rfl) (ev1 rfl)) ?_
        refine lex_gr (gd_t rfl rfl rfl) rfl rfl (op_move (.inl rfl) (ev1 rfl)) ?_
        refine lex_gr (gd_t rfl rfl rfl) rfl rfl (op_lenm rfl sl22 (ev2 rfl)) ?_
        refine lex_gr (gd_t rfl rfl rfl) rfl rfl (op_min rfl (ev2 rfl) (ev1 rfl)) ?_
        refine lex_gr (gd_t rfl rfl rfl) rfl rfl (op_slmtk (j := min l.length 10) rfl sl22 (ev2 rfl) (bd_some (ev2 rfl)) (fun _ => by omega) (fun _ => by omega) (fun _ => rfl)) ?_
        refine lex_gr (gd_t rfl rfl rfl) rfl rfl (dop_call [] [] [] rfl (ev1 rfl) (ec (ev2 rfl) en) rfl rfl (few_f (l.take (min l.length 10))) rfl rfl rfl rfl rfl rfl) ?_
        refine lex_gr (gd_t rfl rfl rfl) rfl rfl (op_bldD (ps := [(0, .tmp 166)]) rfl fl25 zr25 (ec (ev2 rfl) en) rfl rfl rfl) ?_
        refine lex_gr (gd_t rfl rfl rfl) rfl rfl (dop_call [] [] [] rfl (ev1 rfl) (ec (ev2 rfl) (ec (ev2 rfl) en)) rfl rfl (rsame_d (fewP (l.take (min l.length 10))) (fewP (l.take (min l.length 10))) 0 0 (by omega)) rfl rfl rfl rfl rfl rfl) ?_
        refine lex_r rfl rfl (op_and rfl (ev1 rfl) (ev3 rfl id)) ?_
        refine lex_r rfl rfl (op_move (.inr rfl) (ev1 rfl)) ?_
        refine lex_nil ?_
        refine dwp_ret ?_
        refine kend0 (rs1 rfl (rv_t rfl)) rfl ?_
        simp

end Go.Proofs.Ytgomklemldldiaa
