/- the law of what is kept. No condition. -/
import Derived.Test.YtjecmkaggobcjaaK6
namespace Go.Proofs.Ytjecmkaggobcjaa
set_option linter.unusedVariables false
set_option linter.unusedSimpArgs false
open Go.RowKit
theorem fallD (d : DkS) (hd : d.ok) (a b : Int) (h : 0 ≤ a ∧ 0 ≤ b) : DFun Try.prog 31 [d.d, .val (.int .i64 a), .val (.int .i64 b)] [] (.tup [(fallS d a.toNat b.toNat).d, .val (.int .i64 0)]) [] := by
  have e1 : ((a.toNat : Nat) : Int) = a := by omega
  have e2 : ((b.toNat : Nat) : Int) = b := by omega
  have := fallZ d hd a.toNat b.toNat
  rw [e1, e2] at this
  exact this
theorem ab_c {a b : Int} (h : ¬ (0 ≤ a ∧ 0 ≤ b)) : (((2 : Int) == 2) && (decide (a < 0) || decide (b < 0))) = true := by
  by_cases h1 : a < 0
  · rw [decide_eq_true h1]; rfl
  · rw [decide_eq_true (show b < 0 by omega)]; simp
theorem kp_c {g : Nat → List Nat} {d : DkS} {em : List Nat} (hd : d.ok) (h : KP g d em) (K T : Nat) {i : Nat} (hi : i < 4) : (((0 : Int) != 0) || ((((em.getD i 0 : Nat) : Int) == 0) && (!(decide (((g i).length : Int) ≤ ((seF (riseS (fallS d K T)).f (riseS (fallS d K T)).w i).length : Int)) && decide ((seF (riseS (fallS d K T)).f (riseS (fallS d K T)).w i).take (g i).length = g i))))) = false := by
  by_cases q : em.getD i 0 = 0
  · rw [show seF (riseS (fallS d K T)).f (riseS (fallS d K T)).w i = (fallS d K T).f i from rfl, hasp_eq (KP_fall hd h K T hi q)]; simp
  · have q2 : (((em.getD i 0 : Nat) : Int) == 0) = false := by rw [beq_eq_false_iff_ne]; omega
    rw [q2]; rfl
set_option maxRecDepth 4000 in
set_option maxHeartbeats 1000000 in
theorem keeps_d (f : Nat → List Nat) (h : Int) (w : List DOpn) (dn : Bool) (fu : Int) (hNf : ∀ i, i < 4 → isN (f i)) (hNw : ∀ o ∈ w, isN o.b) (y : List DOpn) (hNy : ∀ o ∈ y, isN o.b) (a b : Int) : DFun Try.prog 6 [.agg (dD f h w dn fu), .slm 3 (y).length ((y).flatMap oD), .val (.agg #[.int .i64 a, .int .i64 b])] [] (.val (.bool true)) [] := by
  refine dcalls_go (N := 161) 0 (by kernel_rfl) Try.func6 rfl rfl rfl (by simp only [fr0, Nat.zero_add, Nat.reduceAdd]; exact rfl) rfl fun s0 hs0 => ?_
  refine dwp_lenm (t := 1) rfl fun hl1 hL1 => ?_
  refine dwp_seq ?_
  refine dwp_holes 1 (by simp only [holes, List.cons_append, List.nil_append]; exact rfl) ?_
  refine dwp_region ?_
  refine walk_r rfl rfl rfl (op_boxf rfl rfl (ev1 rfl)) ?_
  refine walk_w rfl rfl rfl (op_boxa 0 rfl (ev1 rfl) rfl) (by simp only [upd, List.set_cons_zero, List.set_cons_succ]; exact rfl) ?_
  refine walk_r rfl rfl rfl (op_move (.inr rfl) (ev1 rfl)) ?_
  refine walk_nil ?_
  refine dwp_seq ?_
  refine dwp_seq ?_
  refine dwp_region ?_
  refine walk_r rfl rfl rfl (dop_call [] [] [] rfl (ev1 rfl) en rfl rfl (wakes_d) rfl rfl rfl rfl rfl rfl) ?_
  refine walk_r rfl rfl rfl (op_not rfl (ev1 rfl)) ?_
  refine walk_nil ?_
  refine dwp_if_f rfl (rfl) ?_
  refine dwp_skip ?_
  refine dwp_seq ?_
  have hyl := opsL_len y
  have hys := ops_small (w := y)
  have hNo := isN_own hNf
  have hNp := isN_ops hNw
  have hNq := isN_ops hNy
  refine dwp_holes 1 (by simp only [holes, List.cons_append, List.nil_append]; exact rfl) ?_
  refine dwp_region ?_
  refine walk_r rfl rfl rfl (op_lddr rfl tb26 (ev1 rfl) rfl rfl) ?_
  refine walk_r rfl rfl rfl (dop_call [] [] [] rfl (ev1 rfl) (ec (ev1 rfl) en) rfl rfl (own_d f h w dn fu) rfl rfl rfl rfl rfl rfl) ?_
  refine walk_r rfl rfl rfl (dop_call [] [] [] rfl (ev1 rfl) en rfl rfl (syncZ) rfl rfl rfl rfl rfl rfl) ?_
  refine walk_r rfl rfl rfl (dop_call [] [] [] rfl (ev1 rfl) (ec (ev1 rfl) (ec (ev1 rfl) en)) rfl rfl (doAZ (ownK f h w dn fu) syO (own_few f w) (by decide)) rfl rfl rfl rfl rfl rfl) ?_
  refine walk_r rfl rfl rfl (op_move (.inl rfl) (ev1 rfl)) ?_
  refine walk_r rfl rfl rfl (op_ext rfl (ev1 rfl) rfl) ?_
  refine walk_r rfl rfl rfl (op_ext rfl (ev1 rfl) rfl) ?_
  refine walk_w rfl rfl rfl (op_alloc 1 rfl zr26 rfl) (by simp only [upd, List.set_cons_zero, List.set_cons_succ]; exact rfl) ?_
  refine walk_s rfl rfl (op_stam rfl tb26 (ev1 rfl) (ev1 rfl) rfl rfl rfl rfl) (by simp only [upd, List.set_cons_zero, List.set_cons_succ]; exact rfl) ?_
  refine walk_r rfl rfl rfl (op_move (.inr rfl) (ev1 rfl)) ?_
  refine walk_nil ?_
  refine dwp_seq ?_
  refine dwp_seq ?_
  refine dwp_region ?_
  refine walk_r rfl rfl rfl (op_move (.inl rfl) (ev1 rfl)) ?_
  refine walk_r rfl rfl rfl (op_neq rfl (ev1 rfl) (ev1 rfl)) ?_
  refine walk_nil ?_
  refine dwp_cond rfl (fun cA => ?_) (fun cA => ?_)
  · refine dwp_seq ?_
    refine dwp_region ?_
    refine walk_r rfl rfl rfl (op_move (.inr rfl) (ev1 rfl)) ?_
    refine walk_nil ?_
    refine dwp_ret ?_
    refine kend0 (rs1 rfl (rv_t rfl)) rfl ?_
    first | rfl | exact congrArg (fun b => D.val (.bool b)) (ab_c hab)
  · have hE : (doA (ownK f h w dn fu) syO).2 = 0 := by simpa using cA
    obtain ⟨hd, he, hde⟩ := doA_0 hE
    obtain ⟨hz1, hz2, hz3, hz4⟩ := opE_0 he
    rw [okS_sy] at hde
    rw [hde]
    have hso := syS_ok hd hz2 hz4
    have hsD : isD (syS (ownK f h w dn fu)) := ⟨isN_seF' _ _ hNo hNp, fun o ho => absurd ho List.not_mem_nil⟩
    refine dwp_skip ?_
    refine dwp_seq ?_
    refine dwp_holes 1 (by simp only [holes, List.cons_append, List.nil_append]; exact rfl) ?_
    refine dwp_region ?_
    refine walk_w rfl rfl rfl (op_alloc 2 rfl zr23 rfl) (by simp only [upd, List.set_cons_zero, List.set_cons_succ]; exact rfl) ?_
    refine walk_nil ?_
    refine dwp_seq ?_
    refine dwp_seq ?_
    refine dwp_region ?_
    refine walk_r rfl rfl rfl (op_move (.inl rfl) (ev1 rfl)) ?_
    refine walk_nil ?_
    refine dwp_block ?_
    refine dwp_reb 2 reb_mix rfl rfl (by simp only [List.cons_append, List.nil_append, List.set_cons_zero, List.set_cons_succ, List.map]; exact rfl) ?_
    refine dwp_loopS ⟨hs0, rfl⟩ (α := Nat) (fun i => [(34, .val (.int .i64 (i : Int)))]) [(1, _), (5, _), (7, _), (9, _)] (fun i => [(2, .mix 23 (wasK (syS (ownK f h w dn fu)).f (i)))]) [_, _, .hole] (fun i => i ≤ 4) (fun i => 4 - i) 0 [0, 1, 2] (by simp) rfl ⟨rfl, rfl, rfl, rfl, trivial⟩ ⟨rfl, trivial⟩ ⟨rfl, rfl, rfl, trivial⟩ ?_
    intro i hx
    simp only [upd, List.set_cons_zero, List.set_cons_succ, List.cons_append, List.nil_append]
    have hi := hx
    refine dwp_seq ?_
    refine dwp_region ?_
    refine walk_r rfl rfl rfl (op_lss rfl (ev1 rfl) (ev1 rfl)) ?_
    refine walk_nil ?_
    refine dwp_seq ?_
    refine dwp_cond rfl (fun c3 => ?_) (fun c3 => ?_)
    · try simp only [decide_eq_true_eq, decide_eq_false_iff_not, beq_iff_eq, bne_iff_ne, beq_eq_false_iff_ne, bne_eq_false_iff_eq, Bool.not_eq_true', Bool.not_eq_false', Bool.and_eq_true, Bool.or_eq_true, Bool.or_eq_false_iff, ne_eq, Decidable.not_not, Int.not_lt, Int.not_le] at c3
      refine dwp_skip ?_
      refine dwp_seq ?_
      refine dwp_block ?_
      refine dwp_seq ?_
      have hi4 : i < 4 := by omega
      refine dwp_region ?_
      refine walk_r rfl rfl rfl (op_move (.inl rfl) (ev1 rfl)) ?_
      refine walk_r rfl rfl rfl (op_move (.inr rfl) (ev1 rfl)) ?_
      refine walk_nil ?_
      refine dwp_seq ?_
      refine dwp_region ?_
      refine walk_r rfl rfl rfl (op_ldmw rfl tb26 (ev1 rfl) rfl rfl) ?_
      refine walk_r rfl rfl rfl (op_move (.inl rfl) (ev1 rfl)) ?_
      refine walk_r rfl rfl rfl (dop_call [] [] [] rfl (ev1 rfl) (ec (ev1 rfl) (ec (ev1 rfl) en)) rfl rfl (readI (syS (ownK f h w dn fu)) hso i hi4) rfl rfl rfl rfl rfl rfl) ?_
      refine walk_r rfl rfl rfl (op_move (.inl rfl) (ev1 rfl)) ?_
      refine walk_r rfl rfl rfl (op_ext rfl (ev1 rfl) rfl) ?_
      refine walk_r rfl rfl rfl (op_ext rfl (ev1 rfl) rfl) ?_
      refine walk_r rfl rfl rfl (op_move (.inr rfl) (ev1 rfl)) ?_
      refine walk_r rfl rfl rfl (op_move (.inr rfl) (ev1 rfl)) ?_
      refine walk_nil ?_
      refine dwp_seq ?_
      refine dwp_seq ?_
      refine dwp_region ?_
      refine walk_r rfl rfl rfl (op_move (.inl rfl) (ev1 rfl)) ?_
      refine walk_r rfl rfl rfl (op_neq rfl (ev1 rfl) (ev1 rfl)) ?_
      refine walk_r rfl rfl rfl (op_move (.inl rfl) (ev1 rfl)) ?_
      refine walk_gr (gd_f rfl rfl rfl) rfl rfl rfl (op_move (.inl rfl) (ev1 rfl)) ?_
      refine walk_gr (gd_f rfl rfl rfl) rfl rfl rfl (op_move (.inl rfl) (ev1 rfl)) ?_
      refine walk_gr (gd_f rfl rfl rfl) rfl rfl rfl (op_fa rfl fo26_0 (ev1 rfl)) ?_
      refine walk_gr (gd_f rfl rfl rfl) rfl rfl rfl (op_ixl rfl ar23 (ev2 rfl) (ev2 rfl) (fun _ => by omega)) ?_
      refine walk_gr (gd_f rfl rfl rfl) rfl rfl rfl (op_ldm rfl tb22 (ev2 rfl) rfl ((fcell_m (z := (i : Int)) ⟨by omega, by omega⟩))) ?_
      refine walk_gr (gd_f rfl rfl rfl) rfl rfl rfl (dop_call [] [] [] rfl (ev1 rfl) (ec (ev2 rfl) (ec (ev2 rfl) en)) rfl rfl (beq_d (seF (syS (ownK f h w dn fu)).f (syS (ownK f h w dn fu)).w i) ((syS (ownK f h w dn fu)).f i) (hsD.1 i hi4) (hsD.1 i hi4)) rfl rfl rfl rfl rfl rfl) ?_
      refine walk_gr (gd_f rfl rfl rfl) rfl rfl rfl (op_not rfl (ev2 rfl)) ?_
      refine walk_r rfl rfl rfl (op_or rfl (ev1 rfl) (ev3 rfl id)) ?_
      refine walk_nil ?_
      refine dwp_if_f rfl (by rw [show seF (syS (ownK f h w dn fu)).f (syS (ownK f h w dn fu)).w i = (syS (ownK f h w dn fu)).f i from rfl]; simp) ?_
      refine dwp_skip ?_
      refine dwp_region ?_
      refine walk_r rfl rfl rfl (op_move (.inl rfl) (ev1 rfl)) ?_
      refine walk_r rfl rfl rfl (op_move (.inl rfl) (ev1 rfl)) ?_
      refine walk_r rfl rfl rfl (op_ixl rfl ar23 (ev1 rfl) (ev1 rfl) (fun _ => by omega)) ?_
      refine walk_s rfl rfl (op_stm rfl tb22 (ev1 rfl) (ev1 rfl) (fun s v h => by cases h <;> exact ⟨rfl, rfl⟩) rfl (by unfold wasK; show 0 + ((i : Int)).toNat * 1 < 4; omega)) (by simp only [upd, List.set_cons_zero, List.set_cons_succ]; exact rfl) ?_
      refine walk_nil ?_
      refine dwp_region ?_
      refine walk_r rfl rfl rfl (op_add' rfl (ev1 rfl) (ev1 rfl) (fun _ => IntWalk.i64_in _ (by omega))) ?_
      refine walk_r rfl rfl rfl (op_move (.inl rfl) (ev1 rfl)) ?_
      refine walk_nil ?_
      refine ⟨i + 1, [0, 1, 2], by omega, by simp only []; omega, rfl, ⟨rfl, rfl, rfl, rfl, rfl, trivial⟩, ⟨rfl, rfl, mixk_fits (wasK_set hi4) (wasK_nl _ _), trivial⟩⟩
    · try simp only [decide_eq_true_eq, decide_eq_false_iff_not, beq_iff_eq, bne_iff_ne, beq_eq_false_iff_ne, bne_eq_false_iff_eq, Bool.not_eq_true', Bool.not_eq_false', Bool.and_eq_true, Bool.or_eq_true, Bool.or_eq_false_iff, ne_eq, Decidable.not_not, Int.not_lt, Int.not_le] at c3
      refine dwp_exit ?_
      refine dwp_seq ?_
      obtain rfl : i = 4 := by omega
      refine dwp_holes 1 (by simp only [holes, List.cons_append, List.nil_append]; exact rfl) ?_
      refine dwp_region ?_
      refine walk_r rfl rfl rfl (op_build0a rfl ar62 zr62) ?_
      refine walk_w rfl rfl rfl (op_alloc 3 rfl zr62 rfl) (by simp only [upd, List.set_cons_zero, List.set_cons_succ]; exact rfl) ?_
      refine walk_s rfl rfl (op_stwa rfl tb62 (ev1 rfl) (ev1 rfl) rfl rfl rfl rfl) (by simp only [upd, List.set_cons_zero, List.set_cons_succ]; exact rfl) ?_
      refine walk_nil ?_
      refine dwp_seq ?_
      refine dwp_seq ?_
      refine dwp_region ?_
      refine walk_r rfl rfl rfl (op_move (.inl rfl) (ev1 rfl)) ?_
      refine walk_r rfl rfl rfl (dop_call [] [] [] rfl (ev1 rfl) (ec (ev1 rfl) en) rfl rfl (ops_f y) rfl rfl rfl rfl rfl rfl) ?_
      refine walk_r rfl rfl rfl (op_lenm rfl sl24 (ev1 rfl)) ?_
      refine walk_r rfl rfl rfl (op_move (.inl rfl) (ev1 rfl)) ?_
      refine walk_nil ?_
      refine dwp_block ?_
      refine dwp_loopS ⟨hs0, rfl⟩ (α := Nat) (fun k => [(62, .val (.int .i64 (k : Int)))]) [(5, _), (7, _), (9, _), (13, _), (60, _), (61, _)] (fun k => [(1, .mix 26 (dD (keepK (syS (ownK f h w dn fu)) (opsL y) k).f (keepK (syS (ownK f h w dn fu)) (opsL y) k).h (keepK (syS (ownK f h w dn fu)) (opsL y) k).w (keepK (syS (ownK f h w dn fu)) (opsL y) k).dn (keepK (syS (ownK f h w dn fu)) (opsL y) k).fu)), (3, .flat 62 ((emK (opsL y) k).flatMap inN))]) [_, .hole, _, .hole] (fun k => k ≤ (opsL y).length) (fun k => (opsL y).length - k) 0 [0, 1, 2, 3] (by simp) rfl ⟨rfl, rfl, rfl, rfl, rfl, rfl, trivial⟩ ⟨rfl, trivial⟩ ⟨rfl, rfl, rfl, rfl, trivial⟩ ?_
      intro k hx
      simp only [upd, List.set_cons_zero, List.set_cons_succ, List.cons_append, List.nil_append]
      have hk := hx
      have hel := emK_len (opsL y) k hk
      have hKok := keepK_ok (l := opsL y) hso k hk
      have hKD := isD_keepK (l := opsL y) hsD hNq k hk
      have hKK := KP_K (l := opsL y) hso rfl k hk
      refine dwp_seq ?_
      refine dwp_region ?_
      refine walk_r rfl rfl rfl (op_lss rfl (ev1 rfl) (ev1 rfl)) ?_
      refine walk_nil ?_
      refine dwp_seq ?_
      refine dwp_cond rfl (fun c5 => ?_) (fun c5 => ?_)
      · try simp only [decide_eq_true_eq, decide_eq_false_iff_not, beq_iff_eq, bne_iff_ne, beq_eq_false_iff_ne, bne_eq_false_iff_eq, Bool.not_eq_true', Bool.not_eq_false', Bool.and_eq_true, Bool.or_eq_true, Bool.or_eq_false_iff, ne_eq, Decidable.not_not, Int.not_lt, Int.not_le] at c5
        refine dwp_skip ?_
        refine dwp_seq ?_
        refine dwp_block ?_
        refine dwp_seq ?_
        have hkl : k < (opsL y).length := by omega
        have hob := hys _ (List.getElem_mem hkl)
        refine dwp_holes 1 (by simp only [holes, List.cons_append, List.nil_append]; exact rfl) ?_
        refine dwp_region ?_
        refine walk_r rfl rfl rfl (op_ixmr (k) (by decide) rfl sl24 (ev1 rfl) (ev1 rfl) (fun _ => rfl) (by omega) (fun _ => rfl)) ?_
        refine walk_r rfl rfl rfl (op_lddr rfl tb44 (ev1 rfl) rfl rfl) ?_
        refine walk_w rfl rfl rfl (op_alloc 4 rfl zr44 rfl) (by simp only [upd, List.set_cons_zero, List.set_cons_succ]; exact rfl) ?_
        refine walk_s rfl rfl (op_stam rfl tb44 (ev1 rfl) (ev1 rfl) rfl rfl rfl rfl) (by simp only [upd, List.set_cons_zero, List.set_cons_succ]; exact rfl) ?_
        refine walk_nil ?_
        refine dwp_seq ?_
        refine dwp_seq ?_
        refine dwp_region ?_
        refine walk_r rfl rfl rfl (op_fa rfl fo44_0 (ev1 rfl)) ?_
        refine walk_r rfl rfl rfl (op_ldm rfl tb3 (ev1 rfl) rfl rfl) ?_
        refine walk_r rfl rfl rfl (op_eql rfl (ev1 rfl) (ev1 rfl)) ?_
        refine walk_r rfl rfl rfl (op_move (.inl rfl) (ev1 rfl)) ?_
        refine walk_gr (gd_t rfl rfl rfl) rfl rfl rfl (op_fa rfl fo44_1 (ev1 rfl)) ?_
        refine walk_gr (gd_t rfl rfl rfl) rfl rfl rfl (op_ldm rfl tb3 (ev2 rfl) rfl rfl) ?_
        refine walk_gr (gd_t rfl rfl rfl) rfl rfl rfl (op_geq rfl (ev2 rfl) (ev1 rfl)) ?_
        refine walk_r rfl rfl rfl (op_and rfl (ev1 rfl) (ev3 rfl id)) ?_
        refine walk_r rfl rfl rfl (op_move (.inl rfl) (ev1 rfl)) ?_
        refine walk_gr (gd_t rfl rfl rfl) rfl rfl rfl (op_fa rfl fo44_1 (ev1 rfl)) ?_
        refine walk_gr (gd_t rfl rfl rfl) rfl rfl rfl (op_ldm rfl tb3 (ev2 rfl) rfl rfl) ?_
        refine walk_gr (gd_t rfl rfl rfl) rfl rfl rfl (op_lss rfl (ev2 rfl) (ev1 rfl)) ?_
        refine walk_r rfl rfl rfl (op_and rfl (ev1 rfl) (ev3 rfl id)) ?_
        refine walk_nil ?_
        refine dwp_cond rfl (fun cE_ => ?_) (fun cE_ => ?_)
        · have cE : (((opsL y)[k]'hkl).kd = 2 ∧ 0 ≤ ((opsL y)[k]'hkl).fl) ∧ ((opsL y)[k]'hkl).fl < 4 := by simpa using cE_
          refine dwp_region ?_
          refine walk_r rfl rfl rfl (op_fa rfl fo44_1 (ev1 rfl)) ?_
          refine walk_r rfl rfl rfl (op_ldm rfl tb3 (ev1 rfl) rfl rfl) ?_
          refine walk_r rfl rfl rfl (op_ixfr (j := ((opsL y)[k]'hkl).fl.toNat) rfl ar62 (ev1 rfl) (ev1 rfl) (fun _ => by omega) (fun _ => by omega)) ?_
          refine walk_s rfl rfl (op_stfr (q := 1) rfl tb3 (ev1 rfl) (ev1 rfl) rfl rfl rfl (fun _ => rfl) (fun _ => by omega)) (by simp only [upd, List.set_cons_zero, List.set_cons_succ]; exact rfl) ?_
          refine walk_nil ?_
          refine dwp_seq ?_
          refine dwp_holes 1 (by simp only [holes, List.cons_append, List.nil_append]; exact rfl) ?_
          refine dwp_region ?_
          refine walk_r rfl rfl rfl (op_ldmw rfl tb26 (ev1 rfl) rfl rfl) ?_
          refine walk_r rfl rfl rfl (op_ldmw rfl tb44 (ev1 rfl) rfl rfl) ?_
          refine walk_r rfl rfl rfl (dop_call [] [] [] rfl (ev1 rfl) (ec (ev1 rfl) (ec (ev1 rfl) en)) rfl rfl (doZ (keepK (syS (ownK f h w dn fu)) (opsL y) k) ((opsL y)[k]'hkl) hKok hob) rfl rfl rfl rfl rfl rfl) ?_
          refine walk_r rfl rfl rfl (op_move (.inl rfl) (ev1 rfl)) ?_
          refine walk_r rfl rfl rfl (op_ext rfl (ev1 rfl) rfl) ?_
          refine walk_r rfl rfl rfl (op_ext rfl (ev1 rfl) rfl) ?_
          refine walk_w rfl rfl rfl (op_alloc 5 rfl zr26 rfl) (by simp only [upd, List.set_cons_zero, List.set_cons_succ]; exact rfl) ?_
          refine walk_s rfl rfl (op_stam rfl tb26 (ev1 rfl) (ev1 rfl) rfl rfl rfl rfl) (by simp only [upd, List.set_cons_zero, List.set_cons_succ]; exact rfl) ?_
          refine walk_r rfl rfl rfl (op_move (.inr rfl) (ev1 rfl)) ?_
          refine walk_nil ?_
          refine dwp_seq ?_
          refine dwp_seq ?_
          refine dwp_region ?_
          refine walk_r rfl rfl rfl (op_move (.inl rfl) (ev1 rfl)) ?_
          refine walk_r rfl rfl rfl (op_eql rfl (ev1 rfl) (ev1 rfl)) ?_
          refine walk_nil ?_
          refine dwp_cond rfl (fun c9_ => ?_) (fun c9_ => ?_)
          · have h9 : opE (keepK (syS (ownK f h w dn fu)) (opsL y) k) ((opsL y)[k]'hkl) = 321 := by simpa using c9_
            have hdo : doS (keepK (syS (ownK f h w dn fu)) (opsL y) k) ((opsL y)[k]'hkl) = dnS (keepK (syS (ownK f h w dn fu)) (opsL y) k) := by unfold doS; rw [if_neg (by rw [h9]; decide), if_pos h9]
            refine dwp_seq ?_
            refine dwp_region ?_
            refine walk_r rfl rfl rfl (op_ldmw rfl tb26 (ev1 rfl) rfl rfl) ?_
            refine walk_s rfl rfl (op_stmw rfl tb26 (ev1 rfl) (ev1 rfl) rfl rfl rfl rfl) (by simp only [upd, List.set_cons_zero, List.set_cons_succ]; exact rfl) ?_
            refine walk_nil ?_
            refine dwp_exit ?_
            refine dwp_seq ?_
            by_cases hab : 0 ≤ a ∧ 0 ≤ b
            · obtain ⟨DD, em, hDe, hee, hDok, hKP, hDN, hel4⟩ : ∃ (D : DkS) (em : List Nat), D = doS (keepK (syS (ownK f h w dn fu)) (opsL y) k) ((opsL y)[k]'hkl) ∧ em = (emK (opsL y) k).set ((opsL y)[k]'hkl).fl.toNat 1 ∧ D.ok ∧ KP (syS (ownK f h w dn fu)).f D em ∧ isD D ∧ em.length = 4 := ⟨_, _, rfl, rfl, by rw [hdo]; exact dnS_ok hKok, by rw [hdo]; have q := KP_em (o := ((opsL y)[k]'hkl)) hel hKK; unfold emO at q; rw [if_pos cE] at q; exact q, by rw [hdo]; exact hKD, by rw [List.length_set]; exact hel⟩
              rw [← hDe, ← hee]
              refine dwp_holes 1 (by simp only [holes, List.cons_append, List.nil_append]; exact rfl) ?_
              refine dwp_region ?_
              refine walk_r rfl rfl rfl (op_ldmw rfl tb26 (ev1 rfl) rfl rfl) ?_
              refine walk_r rfl rfl rfl (op_ixl rfl ar55 (ev1 rfl) (ev1 rfl) (fun _ => by omega)) ?_
              refine walk_r rfl rfl rfl (op_ldo rfl tb3 (ev1 rfl) rfl rfl) ?_
              refine walk_r rfl rfl rfl (op_ixl rfl ar55 (ev1 rfl) (ev1 rfl) (fun _ => by omega)) ?_
              refine walk_r rfl rfl rfl (op_ldo rfl tb3 (ev1 rfl) rfl rfl) ?_
              refine walk_r rfl rfl rfl (dop_call [] [] [] rfl (ev1 rfl) (ec (ev1 rfl) (ec (ev1 rfl) (ec (ev1 rfl) en))) rfl rfl (fallD DD hDok a b hab) rfl rfl rfl rfl rfl rfl) ?_
              refine walk_r rfl rfl rfl (op_move (.inl rfl) (ev1 rfl)) ?_
              refine walk_r rfl rfl rfl (op_ext rfl (ev1 rfl) rfl) ?_
              refine walk_r rfl rfl rfl (op_ext rfl (ev1 rfl) rfl) ?_
              refine walk_w rfl rfl rfl (op_alloc 6 rfl zr26 rfl) (by simp only [upd, List.set_cons_zero, List.set_cons_succ]; exact rfl) ?_
              refine walk_s rfl rfl (op_stam rfl tb26 (ev1 rfl) (ev1 rfl) rfl rfl rfl rfl) (by simp only [upd, List.set_cons_zero, List.set_cons_succ]; exact rfl) ?_
              refine walk_r rfl rfl rfl (op_move (.inr rfl) (ev1 rfl)) ?_
              refine walk_nil ?_
              refine dwp_seq ?_
              refine dwp_seq ?_
              refine dwp_region ?_
              refine walk_r rfl rfl rfl (op_move (.inl rfl) (ev1 rfl)) ?_
              refine walk_r rfl rfl rfl (op_neq rfl (ev1 rfl) (ev1 rfl)) ?_
              refine walk_nil ?_
              refine dwp_if_f rfl (rfl) ?_
              refine dwp_skip ?_
              refine dwp_seq ?_
              have hfo := fall_ok hDok a.toNat b.toNat
              have huo := riseD_ok hfo
              have hfN := isN_fall hDN a.toNat b.toNat
              refine dwp_holes 1 (by simp only [holes, List.cons_append, List.nil_append]; exact rfl) ?_
              refine dwp_region ?_
              refine walk_r rfl rfl rfl (op_ldmw rfl tb26 (ev1 rfl) rfl rfl) ?_
              refine walk_r rfl rfl rfl (dop_call [] [] [] rfl (ev1 rfl) (ec (ev1 rfl) en) rfl rfl (riseZ (fallS DD a.toNat b.toNat) hfo rfl) rfl rfl rfl rfl rfl rfl) ?_
              refine walk_r rfl rfl rfl (op_move (.inl rfl) (ev1 rfl)) ?_
              refine walk_r rfl rfl rfl (op_ext rfl (ev1 rfl) rfl) ?_
              refine walk_r rfl rfl rfl (op_ext rfl (ev1 rfl) rfl) ?_
              refine walk_w rfl rfl rfl (op_alloc 7 rfl zr26 rfl) (by simp only [upd, List.set_cons_zero, List.set_cons_succ]; exact rfl) ?_
              refine walk_s rfl rfl (op_stam rfl tb26 (ev1 rfl) (ev1 rfl) rfl rfl rfl rfl) (by simp only [upd, List.set_cons_zero, List.set_cons_succ]; exact rfl) ?_
              refine walk_r rfl rfl rfl (op_move (.inr rfl) (ev1 rfl)) ?_
              refine walk_nil ?_
              refine dwp_seq ?_
              refine dwp_seq ?_
              refine dwp_region ?_
              refine walk_r rfl rfl rfl (op_move (.inl rfl) (ev1 rfl)) ?_
              refine walk_r rfl rfl rfl (op_neq rfl (ev1 rfl) (ev1 rfl)) ?_
              refine walk_r rfl rfl rfl (op_move (.inl rfl) (ev1 rfl)) ?_
              refine walk_gr (gd_f rfl rfl rfl) rfl rfl rfl (op_fa rfl fo26_3 (ev1 rfl)) ?_
              refine walk_gr (gd_f rfl rfl rfl) rfl rfl rfl (op_ldm rfl tb4 (ev2 rfl) rfl rfl) ?_
              refine walk_r rfl rfl rfl (op_or rfl (ev1 rfl) (ev3 rfl id)) ?_
              refine walk_r rfl rfl rfl (op_move (.inl rfl) (ev1 rfl)) ?_
              refine walk_gr (gd_f rfl rfl rfl) rfl rfl rfl (op_fa rfl fo26_2 (ev1 rfl)) ?_
              refine walk_gr (gd_f rfl rfl rfl) rfl rfl rfl (op_ldm rfl tb24 (ev2 rfl) rfl rfl) ?_
              refine walk_gr (gd_f rfl rfl rfl) rfl rfl rfl (op_lenm rfl sl24 (ev2 rfl)) ?_
              refine walk_gr (gd_f rfl rfl rfl) rfl rfl rfl (op_gtr rfl (ev2 rfl) (ev1 rfl)) ?_
              refine walk_r rfl rfl rfl (op_or rfl (ev1 rfl) (ev3 rfl id)) ?_
              refine walk_nil ?_
              refine dwp_if_f rfl (by simp [riseS]) ?_
              refine dwp_skip ?_
              refine dwp_seq ?_
              refine dwp_seq ?_
              refine dwp_region ?_
              refine walk_r rfl rfl rfl (op_move (.inl rfl) (ev1 rfl)) ?_
              refine walk_nil ?_
              refine dwp_block ?_
              refine dwp_loopS ⟨hs0, rfl⟩ (α := Nat) (fun j => [(135, .val (.int .i64 (j : Int)))]) [(9, _), (13, _), (19, _)] (fun j => []) [_, _, _, _, _, _, _, _] (fun j => j ≤ 4) (fun j => 4 - j) 0 [0, 1, 2, 3, 4, 5, 6, 7] (by simp) rfl ⟨rfl, rfl, rfl, trivial⟩ ⟨rfl, trivial⟩ ⟨rfl, rfl, rfl, rfl, rfl, rfl, rfl, rfl, trivial⟩ ?_
              intro j hx
              simp only [upd, List.set_cons_zero, List.set_cons_succ, List.cons_append, List.nil_append]
              have hj := hx
              refine dwp_seq ?_
              refine dwp_region ?_
              refine walk_r rfl rfl rfl (op_lss rfl (ev1 rfl) (ev1 rfl)) ?_
              refine walk_nil ?_
              refine dwp_seq ?_
              refine dwp_cond rfl (fun c10 => ?_) (fun c10 => ?_)
              · try simp only [decide_eq_true_eq, decide_eq_false_iff_not, beq_iff_eq, bne_iff_ne, beq_eq_false_iff_ne, bne_eq_false_iff_eq, Bool.not_eq_true', Bool.not_eq_false', Bool.and_eq_true, Bool.or_eq_true, Bool.or_eq_false_iff, ne_eq, Decidable.not_not, Int.not_lt, Int.not_le] at c10
                refine dwp_skip ?_
                refine dwp_seq ?_
                refine dwp_block ?_
                refine dwp_seq ?_
                have hj4 : j < 4 := by omega
                have hul : seF (riseS (fallS DD a.toNat b.toNat)).f (riseS (fallS DD a.toNat b.toNat)).w j = (fallS DD a.toNat b.toNat).f j := rfl
                refine dwp_region ?_
                refine walk_r rfl rfl rfl (op_move (.inl rfl) (ev1 rfl)) ?_
                refine walk_r rfl rfl rfl (op_move (.inr rfl) (ev1 rfl)) ?_
                refine walk_nil ?_
                refine dwp_seq ?_
                refine dwp_region ?_
                refine walk_r rfl rfl rfl (op_ldmw rfl tb26 (ev1 rfl) rfl rfl) ?_
                refine walk_r rfl rfl rfl (op_move (.inl rfl) (ev1 rfl)) ?_
                refine walk_r rfl rfl rfl (dop_call [] [] [] rfl (ev1 rfl) (ec (ev1 rfl) (ec (ev1 rfl) en)) rfl rfl (readI (riseS (fallS DD a.toNat b.toNat)) huo j hj4) rfl rfl rfl rfl rfl rfl) ?_
                refine walk_r rfl rfl rfl (op_move (.inl rfl) (ev1 rfl)) ?_
                refine walk_r rfl rfl rfl (op_ext rfl (ev1 rfl) rfl) ?_
                refine walk_r rfl rfl rfl (op_ext rfl (ev1 rfl) rfl) ?_
                refine walk_r rfl rfl rfl (op_move (.inr rfl) (ev1 rfl)) ?_
                refine walk_r rfl rfl rfl (op_move (.inr rfl) (ev1 rfl)) ?_
                refine walk_nil ?_
                refine dwp_seq ?_
                refine dwp_region ?_
                refine walk_r rfl rfl rfl (op_move (.inl rfl) (ev1 rfl)) ?_
                refine walk_r rfl rfl rfl (op_neq rfl (ev1 rfl) (ev1 rfl)) ?_
                refine walk_r rfl rfl rfl (op_move (.inl rfl) (ev1 rfl)) ?_
                refine walk_gr (gd_f rfl rfl rfl) rfl rfl rfl (op_move (.inl rfl) (ev1 rfl)) ?_
                refine walk_gr (gd_f rfl rfl rfl) rfl rfl rfl (op_ixfr (j := j) rfl ar62 (ev1 rfl) (ev2 rfl) (fun _ => by omega) (fun _ => by omega)) ?_
                refine walk_gr (gd_f rfl rfl rfl) rfl rfl rfl (op_ldf1 (0) rfl tb3 (ev2 rfl) rfl (fun _ => rfl) (by decide) (fun _ => by first | omega | (simp only [List.length_set]; omega)) rfl) ?_
                refine walk_gr (gd_f rfl rfl rfl) rfl rfl rfl (op_eql rfl (ev2 rfl) (ev1 rfl)) ?_
                refine walk_gr (gd_f rfl rfl rfl) rfl rfl rfl (op_move (.inl rfl) (ev2 rfl)) ?_
                refine walk_gr (gd_tt rfl rfl rfl) rfl rfl rfl (op_move (.inl rfl) (ev1 rfl)) ?_
                refine walk_gr (gd_tt rfl rfl rfl) rfl rfl rfl (op_move (.inl rfl) (ev1 rfl)) ?_
                refine walk_gr (gd_tt rfl rfl rfl) rfl rfl rfl (op_ixl rfl ar23 (ev1 rfl) (ev2 rfl) (fun _ => by omega)) ?_
                refine walk_gr (gd_tt rfl rfl rfl) rfl rfl rfl (op_ldm rfl tb22 (ev2 rfl) rfl ((wasK_at hj4))) ?_
                refine walk_gr (gd_tt rfl rfl rfl) rfl rfl rfl (dop_call [] [] [] rfl (ev1 rfl) (ec (ev2 rfl) (ec (ev2 rfl) en)) rfl rfl (hasp_d (seF (riseS (fallS DD a.toNat b.toNat)).f (riseS (fallS DD a.toNat b.toNat)).w j) ((syS (ownK f h w dn fu)).f j) (hfN j hj4) (hsD.1 j hj4)) rfl rfl rfl rfl rfl rfl) ?_
                refine walk_gr (gd_tt rfl rfl rfl) rfl rfl rfl (op_not rfl (ev2 rfl)) ?_
                refine walk_gr (gd_f rfl rfl rfl) rfl rfl rfl (op_and rfl (ev2 rfl) (ev2 rfl)) ?_
                refine walk_r rfl rfl rfl (op_or rfl (ev1 rfl) (ev3 rfl id)) ?_
                refine walk_nil ?_
                refine dwp_if_f rfl (kp_c hDok hKP a.toNat b.toNat hj4) ?_
                refine dwp_skip ?_
                refine dwp_region ?_
                refine walk_r rfl rfl rfl (op_add' rfl (ev1 rfl) (ev1 rfl) (fun _ => IntWalk.i64_in _ (by omega))) ?_
                refine walk_r rfl rfl rfl (op_move (.inl rfl) (ev1 rfl)) ?_
                refine walk_nil ?_
                refine ⟨j + 1, [0, 1, 2, 3, 4, 5, 6, 7], by omega, by simp only []; omega, rfl, ⟨rfl, rfl, rfl, rfl, trivial⟩, ⟨rfl, rfl, rfl, rfl, rfl, rfl, rfl, rfl, trivial⟩⟩
              · try simp only [decide_eq_true_eq, decide_eq_false_iff_not, beq_iff_eq, bne_iff_ne, beq_eq_false_iff_ne, bne_eq_false_iff_eq, Bool.not_eq_true', Bool.not_eq_false', Bool.and_eq_true, Bool.or_eq_true, Bool.or_eq_false_iff, ne_eq, Decidable.not_not, Int.not_lt, Int.not_le] at c10
                refine dwp_exit ?_
                refine dwp_seq ?_
                refine dwp_region ?_
                refine walk_r rfl rfl rfl (op_move (.inr rfl) (ev1 rfl)) ?_
                refine walk_nil ?_
                refine dwp_ret ?_
                refine kend0 (rs1 rfl (rv_t rfl)) rfl ?_
                first | rfl | exact congrArg (fun b => D.val (.bool b)) (ab_c hab)
            · obtain ⟨DD, em, hDe, hee, hDok, hKP, hDN, hel4⟩ : ∃ (D : DkS) (em : List Nat), D = doS (keepK (syS (ownK f h w dn fu)) (opsL y) k) ((opsL y)[k]'hkl) ∧ em = (emK (opsL y) k).set ((opsL y)[k]'hkl).fl.toNat 1 ∧ D.ok ∧ KP (syS (ownK f h w dn fu)).f D em ∧ isD D ∧ em.length = 4 := ⟨_, _, rfl, rfl, by rw [hdo]; exact dnS_ok hKok, by rw [hdo]; have q := KP_em (o := ((opsL y)[k]'hkl)) hel hKK; unfold emO at q; rw [if_pos cE] at q; exact q, by rw [hdo]; exact hKD, by rw [List.length_set]; exact hel⟩
              rw [← hDe, ← hee]
              refine dwp_holes 1 (by simp only [holes, List.cons_append, List.nil_append]; exact rfl) ?_
              refine dwp_region ?_
              refine walk_r rfl rfl rfl (op_ldmw rfl tb26 (ev1 rfl) rfl rfl) ?_
              refine walk_r rfl rfl rfl (op_ixl rfl ar55 (ev1 rfl) (ev1 rfl) (fun _ => by omega)) ?_
              refine walk_r rfl rfl rfl (op_ldo rfl tb3 (ev1 rfl) rfl rfl) ?_
              refine walk_r rfl rfl rfl (op_ixl rfl ar55 (ev1 rfl) (ev1 rfl) (fun _ => by omega)) ?_
              refine walk_r rfl rfl rfl (op_ldo rfl tb3 (ev1 rfl) rfl rfl) ?_
              refine walk_r rfl rfl rfl (dop_call [] [] [] rfl (ev1 rfl) (ec (ev1 rfl) (ec (ev1 rfl) (ec (ev1 rfl) en))) rfl rfl (fallZ_arg DD hDok a b hab) rfl rfl rfl rfl rfl rfl) ?_
              refine walk_r rfl rfl rfl (op_move (.inl rfl) (ev1 rfl)) ?_
              refine walk_r rfl rfl rfl (op_ext rfl (ev1 rfl) rfl) ?_
              refine walk_r rfl rfl rfl (op_ext rfl (ev1 rfl) rfl) ?_
              refine walk_w rfl rfl rfl (op_alloc 6 rfl zr26 rfl) (by simp only [upd, List.set_cons_zero, List.set_cons_succ]; exact rfl) ?_
              refine walk_s rfl rfl (op_stam rfl tb26 (ev1 rfl) (ev1 rfl) rfl rfl rfl rfl) (by simp only [upd, List.set_cons_zero, List.set_cons_succ]; exact rfl) ?_
              refine walk_r rfl rfl rfl (op_move (.inr rfl) (ev1 rfl)) ?_
              refine walk_nil ?_
              refine dwp_seq ?_
              refine dwp_seq ?_
              refine dwp_region ?_
              refine walk_r rfl rfl rfl (op_move (.inl rfl) (ev1 rfl)) ?_
              refine walk_r rfl rfl rfl (op_neq rfl (ev1 rfl) (ev1 rfl)) ?_
              refine walk_nil ?_
              refine dwp_if_t rfl (rfl) ?_
              refine dwp_seq ?_
              refine dwp_region ?_
              refine walk_r rfl rfl rfl (op_move (.inl rfl) (ev1 rfl)) ?_
              refine walk_r rfl rfl rfl (op_eql rfl (ev1 rfl) (ev1 rfl)) ?_
              refine walk_r rfl rfl rfl (op_move (.inl rfl) (ev1 rfl)) ?_
              refine walk_gr (gd_t rfl rfl rfl) rfl rfl rfl (op_ixl rfl ar55 (ev1 rfl) (ev1 rfl) (fun _ => by omega)) ?_
              refine walk_gr (gd_t rfl rfl rfl) rfl rfl rfl (op_ldo rfl tb3 (ev2 rfl) rfl rfl) ?_
              refine walk_gr (gd_t rfl rfl rfl) rfl rfl rfl (op_lss rfl (ev2 rfl) (ev1 rfl)) ?_
              refine walk_gr (gd_t rfl rfl rfl) rfl rfl rfl (op_move (.inl rfl) (ev2 rfl)) ?_
              refine walk_gr (gd_ff rfl rfl rfl) rfl rfl rfl (op_ixl rfl ar55 (ev1 rfl) (ev1 rfl) (fun _ => by omega)) ?_
              refine walk_gr (gd_ff rfl rfl rfl) rfl rfl rfl (op_ldo rfl tb3 (ev2 rfl) rfl rfl) ?_
              refine walk_gr (gd_ff rfl rfl rfl) rfl rfl rfl (op_lss rfl (ev2 rfl) (ev1 rfl)) ?_
              refine walk_gr (gd_t rfl rfl rfl) rfl rfl rfl (op_or rfl (ev2 rfl) (ev2 rfl)) ?_
              refine walk_r rfl rfl rfl (op_and rfl (ev1 rfl) (ev3 rfl id)) ?_
              refine walk_r rfl rfl rfl (op_move (.inr rfl) (ev1 rfl)) ?_
              refine walk_nil ?_
              refine dwp_ret ?_
              refine kend0 (rs1 rfl (rv_t rfl)) rfl ?_
              first | rfl | exact congrArg (fun b => D.val (.bool b)) (ab_c hab)
          · have h9 : opE (keepK (syS (ownK f h w dn fu)) (opsL y) k) ((opsL y)[k]'hkl) ≠ 321 := by simpa using c9_
            refine dwp_skip ?_
            refine dwp_seq ?_
            refine dwp_region ?_
            refine walk_r rfl rfl rfl (op_move (.inl rfl) (ev1 rfl)) ?_
            refine walk_r rfl rfl rfl (op_eql rfl (ev1 rfl) (ev1 rfl)) ?_
            refine walk_nil ?_
            refine dwp_cond rfl (fun c0_ => ?_) (fun c0_ => ?_)
            · have h0 : opE (keepK (syS (ownK f h w dn fu)) (opsL y) k) ((opsL y)[k]'hkl) = 0 := by simpa using c0_
              refine dwp_region ?_
              refine walk_r rfl rfl rfl (op_ldmw rfl tb26 (ev1 rfl) rfl rfl) ?_
              refine walk_s rfl rfl (op_stmw rfl tb26 (ev1 rfl) (ev1 rfl) rfl rfl rfl rfl) (by simp only [upd, List.set_cons_zero, List.set_cons_succ]; exact rfl) ?_
              refine walk_nil ?_
              refine dwp_region ?_
              refine walk_r rfl rfl rfl (op_add' rfl (ev1 rfl) (ev1 rfl) (fun _ => IntWalk.i64_in _ (by omega))) ?_
              refine walk_r rfl rfl rfl (op_move (.inl rfl) (ev1 rfl)) ?_
              refine walk_nil ?_
              refine ⟨k + 1, [0, 1, 2, 3], by omega, by simp only []; omega, rfl, ⟨rfl, rfl, rfl, rfl, rfl, rfl, rfl, trivial⟩, ⟨rfl, by rw [keepK_y hkl h0]; rfl, rfl, by rw [emK_succ hkl]; unfold emO; rw [if_pos cE]; rfl, trivial⟩⟩
            · have h0 : opE (keepK (syS (ownK f h w dn fu)) (opsL y) k) ((opsL y)[k]'hkl) ≠ 0 := by simpa using c0_
              refine dwp_skip ?_
              refine dwp_region ?_
              refine walk_r rfl rfl rfl (op_add' rfl (ev1 rfl) (ev1 rfl) (fun _ => IntWalk.i64_in _ (by omega))) ?_
              refine walk_r rfl rfl rfl (op_move (.inl rfl) (ev1 rfl)) ?_
              refine walk_nil ?_
              refine ⟨k + 1, [0, 1, 2, 3], by omega, by simp only []; omega, rfl, ⟨rfl, rfl, rfl, rfl, rfl, rfl, rfl, trivial⟩, ⟨rfl, by rw [keepK_n hkl h0]; rfl, rfl, by rw [emK_succ hkl]; unfold emO; rw [if_pos cE]; rfl, trivial⟩⟩
        · have cE : ¬ ((((opsL y)[k]'hkl).kd = 2 ∧ 0 ≤ ((opsL y)[k]'hkl).fl) ∧ ((opsL y)[k]'hkl).fl < 4) := by simpa using cE_
          refine dwp_skip ?_
          refine dwp_seq ?_
          refine dwp_holes 1 (by simp only [holes, List.cons_append, List.nil_append]; exact rfl) ?_
          refine dwp_region ?_
          refine walk_r rfl rfl rfl (op_ldmw rfl tb26 (ev1 rfl) rfl rfl) ?_
          refine walk_r rfl rfl rfl (op_ldmw rfl tb44 (ev1 rfl) rfl rfl) ?_
          refine walk_r rfl rfl rfl (dop_call [] [] [] rfl (ev1 rfl) (ec (ev1 rfl) (ec (ev1 rfl) en)) rfl rfl (doZ (keepK (syS (ownK f h w dn fu)) (opsL y) k) ((opsL y)[k]'hkl) hKok hob) rfl rfl rfl rfl rfl rfl) ?_
          refine walk_r rfl rfl rfl (op_move (.inl rfl) (ev1 rfl)) ?_
          refine walk_r rfl rfl rfl (op_ext rfl (ev1 rfl) rfl) ?_
          refine walk_r rfl rfl rfl (op_ext rfl (ev1 rfl) rfl) ?_
          refine walk_w rfl rfl rfl (op_alloc 5 rfl zr26 rfl) (by simp only [upd, List.set_cons_zero, List.set_cons_succ]; exact rfl) ?_
          refine walk_s rfl rfl (op_stam rfl tb26 (ev1 rfl) (ev1 rfl) rfl rfl rfl rfl) (by simp only [upd, List.set_cons_zero, List.set_cons_succ]; exact rfl) ?_
          refine walk_r rfl rfl rfl (op_move (.inr rfl) (ev1 rfl)) ?_
          refine walk_nil ?_
          refine dwp_seq ?_
          refine dwp_seq ?_
          refine dwp_region ?_
          refine walk_r rfl rfl rfl (op_move (.inl rfl) (ev1 rfl)) ?_
          refine walk_r rfl rfl rfl (op_eql rfl (ev1 rfl) (ev1 rfl)) ?_
          refine walk_nil ?_
          refine dwp_cond rfl (fun c9_ => ?_) (fun c9_ => ?_)
          · have h9 : opE (keepK (syS (ownK f h w dn fu)) (opsL y) k) ((opsL y)[k]'hkl) = 321 := by simpa using c9_
            have hdo : doS (keepK (syS (ownK f h w dn fu)) (opsL y) k) ((opsL y)[k]'hkl) = dnS (keepK (syS (ownK f h w dn fu)) (opsL y) k) := by unfold doS; rw [if_neg (by rw [h9]; decide), if_pos h9]
            refine dwp_seq ?_
            refine dwp_region ?_
            refine walk_r rfl rfl rfl (op_ldmw rfl tb26 (ev1 rfl) rfl rfl) ?_
            refine walk_s rfl rfl (op_stmw rfl tb26 (ev1 rfl) (ev1 rfl) rfl rfl rfl rfl) (by simp only [upd, List.set_cons_zero, List.set_cons_succ]; exact rfl) ?_
            refine walk_nil ?_
            refine dwp_exit ?_
            refine dwp_seq ?_
            by_cases hab : 0 ≤ a ∧ 0 ≤ b
            · obtain ⟨DD, em, hDe, hee, hDok, hKP, hDN, hel4⟩ : ∃ (D : DkS) (em : List Nat), D = doS (keepK (syS (ownK f h w dn fu)) (opsL y) k) ((opsL y)[k]'hkl) ∧ em = emK (opsL y) k ∧ D.ok ∧ KP (syS (ownK f h w dn fu)).f D em ∧ isD D ∧ em.length = 4 := ⟨_, _, rfl, rfl, by rw [hdo]; exact dnS_ok hKok, by rw [hdo]; exact hKK, by rw [hdo]; exact hKD, hel⟩
              rw [← hDe, ← hee]
              refine dwp_holes 1 (by simp only [holes, List.cons_append, List.nil_append]; exact rfl) ?_
              refine dwp_region ?_
              refine walk_r rfl rfl rfl (op_ldmw rfl tb26 (ev1 rfl) rfl rfl) ?_
              refine walk_r rfl rfl rfl (op_ixl rfl ar55 (ev1 rfl) (ev1 rfl) (fun _ => by omega)) ?_
              refine walk_r rfl rfl rfl (op_ldo rfl tb3 (ev1 rfl) rfl rfl) ?_
              refine walk_r rfl rfl rfl (op_ixl rfl ar55 (ev1 rfl) (ev1 rfl) (fun _ => by omega)) ?_
              refine walk_r rfl rfl rfl (op_ldo rfl tb3 (ev1 rfl) rfl rfl) ?_
              refine walk_r rfl rfl rfl (dop_call [] [] [] rfl (ev1 rfl) (ec (ev1 rfl) (ec (ev1 rfl) (ec (ev1 rfl) en))) rfl rfl (fallD DD hDok a b hab) rfl rfl rfl rfl rfl rfl) ?_
              refine walk_r rfl rfl rfl (op_move (.inl rfl) (ev1 rfl)) ?_
              refine walk_r rfl rfl rfl (op_ext rfl (ev1 rfl) rfl) ?_
              refine walk_r rfl rfl rfl (op_ext rfl (ev1 rfl) rfl) ?_
              refine walk_w rfl rfl rfl (op_alloc 6 rfl zr26 rfl) (by simp only [upd, List.set_cons_zero, List.set_cons_succ]; exact rfl) ?_
              refine walk_s rfl rfl (op_stam rfl tb26 (ev1 rfl) (ev1 rfl) rfl rfl rfl rfl) (by simp only [upd, List.set_cons_zero, List.set_cons_succ]; exact rfl) ?_
              refine walk_r rfl rfl rfl (op_move (.inr rfl) (ev1 rfl)) ?_
              refine walk_nil ?_
              refine dwp_seq ?_
              refine dwp_seq ?_
              refine dwp_region ?_
              refine walk_r rfl rfl rfl (op_move (.inl rfl) (ev1 rfl)) ?_
              refine walk_r rfl rfl rfl (op_neq rfl (ev1 rfl) (ev1 rfl)) ?_
              refine walk_nil ?_
              refine dwp_if_f rfl (rfl) ?_
              refine dwp_skip ?_
              refine dwp_seq ?_
              have hfo := fall_ok hDok a.toNat b.toNat
              have huo := riseD_ok hfo
              have hfN := isN_fall hDN a.toNat b.toNat
              refine dwp_holes 1 (by simp only [holes, List.cons_append, List.nil_append]; exact rfl) ?_
              refine dwp_region ?_
              refine walk_r rfl rfl rfl (op_ldmw rfl tb26 (ev1 rfl) rfl rfl) ?_
              refine walk_r rfl rfl rfl (dop_call [] [] [] rfl (ev1 rfl) (ec (ev1 rfl) en) rfl rfl (riseZ (fallS DD a.toNat b.toNat) hfo rfl) rfl rfl rfl rfl rfl rfl) ?_
              refine walk_r rfl rfl rfl (op_move (.inl rfl) (ev1 rfl)) ?_
              refine walk_r rfl rfl rfl (op_ext rfl (ev1 rfl) rfl) ?_
              refine walk_r rfl rfl rfl (op_ext rfl (ev1 rfl) rfl) ?_
              refine walk_w rfl rfl rfl (op_alloc 7 rfl zr26 rfl) (by simp only [upd, List.set_cons_zero, List.set_cons_succ]; exact rfl) ?_
              refine walk_s rfl rfl (op_stam rfl tb26 (ev1 rfl) (ev1 rfl) rfl rfl rfl rfl) (by simp only [upd, List.set_cons_zero, List.set_cons_succ]; exact rfl) ?_
              refine walk_r rfl rfl rfl (op_move (.inr rfl) (ev1 rfl)) ?_
              refine walk_nil ?_
              refine dwp_seq ?_
              refine dwp_seq ?_
              refine dwp_region ?_
              refine walk_r rfl rfl rfl (op_move (.inl rfl) (ev1 rfl)) ?_
              refine walk_r rfl rfl rfl (op_neq rfl (ev1 rfl) (ev1 rfl)) ?_
              refine walk_r rfl rfl rfl (op_move (.inl rfl) (ev1 rfl)) ?_
              refine walk_gr (gd_f rfl rfl rfl) rfl rfl rfl (op_fa rfl fo26_3 (ev1 rfl)) ?_
              refine walk_gr (gd_f rfl rfl rfl) rfl rfl rfl (op_ldm rfl tb4 (ev2 rfl) rfl rfl) ?_
              refine walk_r rfl rfl rfl (op_or rfl (ev1 rfl) (ev3 rfl id)) ?_
              refine walk_r rfl rfl rfl (op_move (.inl rfl) (ev1 rfl)) ?_
              refine walk_gr (gd_f rfl rfl rfl) rfl rfl rfl (op_fa rfl fo26_2 (ev1 rfl)) ?_
              refine walk_gr (gd_f rfl rfl rfl) rfl rfl rfl (op_ldm rfl tb24 (ev2 rfl) rfl rfl) ?_
              refine walk_gr (gd_f rfl rfl rfl) rfl rfl rfl (op_lenm rfl sl24 (ev2 rfl)) ?_
              refine walk_gr (gd_f rfl rfl rfl) rfl rfl rfl (op_gtr rfl (ev2 rfl) (ev1 rfl)) ?_
              refine walk_r rfl rfl rfl (op_or rfl (ev1 rfl) (ev3 rfl id)) ?_
              refine walk_nil ?_
              refine dwp_if_f rfl (by simp [riseS]) ?_
              refine dwp_skip ?_
              refine dwp_seq ?_
              refine dwp_seq ?_
              refine dwp_region ?_
              refine walk_r rfl rfl rfl (op_move (.inl rfl) (ev1 rfl)) ?_
              refine walk_nil ?_
              refine dwp_block ?_
              refine dwp_loopS ⟨hs0, rfl⟩ (α := Nat) (fun j => [(135, .val (.int .i64 (j : Int)))]) [(9, _), (13, _), (19, _)] (fun j => []) [_, _, _, _, _, _, _, _] (fun j => j ≤ 4) (fun j => 4 - j) 0 [0, 1, 2, 3, 4, 5, 6, 7] (by simp) rfl ⟨rfl, rfl, rfl, trivial⟩ ⟨rfl, trivial⟩ ⟨rfl, rfl, rfl, rfl, rfl, rfl, rfl, rfl, trivial⟩ ?_
              intro j hx
              simp only [upd, List.set_cons_zero, List.set_cons_succ, List.cons_append, List.nil_append]
              have hj := hx
              refine dwp_seq ?_
              refine dwp_region ?_
              refine walk_r rfl rfl rfl (op_lss rfl (ev1 rfl) (ev1 rfl)) ?_
              refine walk_nil ?_
              refine dwp_seq ?_
              refine dwp_cond rfl (fun c17 => ?_) (fun c17 => ?_)
              · try simp only [decide_eq_true_eq, decide_eq_false_iff_not, beq_iff_eq, bne_iff_ne, beq_eq_false_iff_ne, bne_eq_false_iff_eq, Bool.not_eq_true', Bool.not_eq_false', Bool.and_eq_true, Bool.or_eq_true, Bool.or_eq_false_iff, ne_eq, Decidable.not_not, Int.not_lt, Int.not_le] at c17
                refine dwp_skip ?_
                refine dwp_seq ?_
                refine dwp_block ?_
                refine dwp_seq ?_
                have hj4 : j < 4 := by omega
                have hul : seF (riseS (fallS DD a.toNat b.toNat)).f (riseS (fallS DD a.toNat b.toNat)).w j = (fallS DD a.toNat b.toNat).f j := rfl
                refine dwp_region ?_
                refine walk_r rfl rfl rfl (op_move (.inl rfl) (ev1 rfl)) ?_
                refine walk_r rfl rfl rfl (op_move (.inr rfl) (ev1 rfl)) ?_
                refine walk_nil ?_
                refine dwp_seq ?_
                refine dwp_region ?_
                refine walk_r rfl rfl rfl (op_ldmw rfl tb26 (ev1 rfl) rfl rfl) ?_
                refine walk_r rfl rfl rfl (op_move (.inl rfl) (ev1 rfl)) ?_
                refine walk_r rfl rfl rfl (dop_call [] [] [] rfl (ev1 rfl) (ec (ev1 rfl) (ec (ev1 rfl) en)) rfl rfl (readI (riseS (fallS DD a.toNat b.toNat)) huo j hj4) rfl rfl rfl rfl rfl rfl) ?_
                refine walk_r rfl rfl rfl (op_move (.inl rfl) (ev1 rfl)) ?_
                refine walk_r rfl rfl rfl (op_ext rfl (ev1 rfl) rfl) ?_
                refine walk_r rfl rfl rfl (op_ext rfl (ev1 rfl) rfl) ?_
                refine walk_r rfl rfl rfl (op_move (.inr rfl) (ev1 rfl)) ?_
                refine walk_r rfl rfl rfl (op_move (.inr rfl) (ev1 rfl)) ?_
                refine walk_nil ?_
                refine dwp_seq ?_
                refine dwp_region ?_
                refine walk_r rfl rfl rfl (op_move (.inl rfl) (ev1 rfl)) ?_
                refine walk_r rfl rfl rfl (op_neq rfl (ev1 rfl) (ev1 rfl)) ?_
                refine walk_r rfl rfl rfl (op_move (.inl rfl) (ev1 rfl)) ?_
                refine walk_gr (gd_f rfl rfl rfl) rfl rfl rfl (op_move (.inl rfl) (ev1 rfl)) ?_
                refine walk_gr (gd_f rfl rfl rfl) rfl rfl rfl (op_ixfr (j := j) rfl ar62 (ev1 rfl) (ev2 rfl) (fun _ => by omega) (fun _ => by omega)) ?_
                refine walk_gr (gd_f rfl rfl rfl) rfl rfl rfl (op_ldf1 (0) rfl tb3 (ev2 rfl) rfl (fun _ => rfl) (by decide) (fun _ => by first | omega | (simp only [List.length_set]; omega)) rfl) ?_
                refine walk_gr (gd_f rfl rfl rfl) rfl rfl rfl (op_eql rfl (ev2 rfl) (ev1 rfl)) ?_
                refine walk_gr (gd_f rfl rfl rfl) rfl rfl rfl (op_move (.inl rfl) (ev2 rfl)) ?_
                refine walk_gr (gd_tt rfl rfl rfl) rfl rfl rfl (op_move (.inl rfl) (ev1 rfl)) ?_
                refine walk_gr (gd_tt rfl rfl rfl) rfl rfl rfl (op_move (.inl rfl) (ev1 rfl)) ?_
                refine walk_gr (gd_tt rfl rfl rfl) rfl rfl rfl (op_ixl rfl ar23 (ev1 rfl) (ev2 rfl) (fun _ => by omega)) ?_
                refine walk_gr (gd_tt rfl rfl rfl) rfl rfl rfl (op_ldm rfl tb22 (ev2 rfl) rfl ((wasK_at hj4))) ?_
                refine walk_gr (gd_tt rfl rfl rfl) rfl rfl rfl (dop_call [] [] [] rfl (ev1 rfl) (ec (ev2 rfl) (ec (ev2 rfl) en)) rfl rfl (hasp_d (seF (riseS (fallS DD a.toNat b.toNat)).f (riseS (fallS DD a.toNat b.toNat)).w j) ((syS (ownK f h w dn fu)).f j) (hfN j hj4) (hsD.1 j hj4)) rfl rfl rfl rfl rfl rfl) ?_
                refine walk_gr (gd_tt rfl rfl rfl) rfl rfl rfl (op_not rfl (ev2 rfl)) ?_
                refine walk_gr (gd_f rfl rfl rfl) rfl rfl rfl (op_and rfl (ev2 rfl) (ev2 rfl)) ?_
                refine walk_r rfl rfl rfl (op_or rfl (ev1 rfl) (ev3 rfl id)) ?_
                refine walk_nil ?_
                refine dwp_if_f rfl (kp_c hDok hKP a.toNat b.toNat hj4) ?_
                refine dwp_skip ?_
                refine dwp_region ?_
                refine walk_r rfl rfl rfl (op_add' rfl (ev1 rfl) (ev1 rfl) (fun _ => IntWalk.i64_in _ (by omega))) ?_
                refine walk_r rfl rfl rfl (op_move (.inl rfl) (ev1 rfl)) ?_
                refine walk_nil ?_
                refine ⟨j + 1, [0, 1, 2, 3, 4, 5, 6, 7], by omega, by simp only []; omega, rfl, ⟨rfl, rfl, rfl, rfl, trivial⟩, ⟨rfl, rfl, rfl, rfl, rfl, rfl, rfl, rfl, trivial⟩⟩
              · try simp only [decide_eq_true_eq, decide_eq_false_iff_not, beq_iff_eq, bne_iff_ne, beq_eq_false_iff_ne, bne_eq_false_iff_eq, Bool.not_eq_true', Bool.not_eq_false', Bool.and_eq_true, Bool.or_eq_true, Bool.or_eq_false_iff, ne_eq, Decidable.not_not, Int.not_lt, Int.not_le] at c17
                refine dwp_exit ?_
                refine dwp_seq ?_
                refine dwp_region ?_
                refine walk_r rfl rfl rfl (op_move (.inr rfl) (ev1 rfl)) ?_
                refine walk_nil ?_
                refine dwp_ret ?_
                refine kend0 (rs1 rfl (rv_t rfl)) rfl ?_
                first | rfl | exact congrArg (fun b => D.val (.bool b)) (ab_c hab)
            · obtain ⟨DD, em, hDe, hee, hDok, hKP, hDN, hel4⟩ : ∃ (D : DkS) (em : List Nat), D = doS (keepK (syS (ownK f h w dn fu)) (opsL y) k) ((opsL y)[k]'hkl) ∧ em = emK (opsL y) k ∧ D.ok ∧ KP (syS (ownK f h w dn fu)).f D em ∧ isD D ∧ em.length = 4 := ⟨_, _, rfl, rfl, by rw [hdo]; exact dnS_ok hKok, by rw [hdo]; exact hKK, by rw [hdo]; exact hKD, hel⟩
              rw [← hDe, ← hee]
              refine dwp_holes 1 (by simp only [holes, List.cons_append, List.nil_append]; exact rfl) ?_
              refine dwp_region ?_
              refine walk_r rfl rfl rfl (op_ldmw rfl tb26 (ev1 rfl) rfl rfl) ?_
              refine walk_r rfl rfl rfl (op_ixl rfl ar55 (ev1 rfl) (ev1 rfl) (fun _ => by omega)) ?_
              refine walk_r rfl rfl rfl (op_ldo rfl tb3 (ev1 rfl) rfl rfl) ?_
              refine walk_r rfl rfl rfl (op_ixl rfl ar55 (ev1 rfl) (ev1 rfl) (fun _ => by omega)) ?_
              refine walk_r rfl rfl rfl (op_ldo rfl tb3 (ev1 rfl) rfl rfl) ?_
              refine walk_r rfl rfl rfl (dop_call [] [] [] rfl (ev1 rfl) (ec (ev1 rfl) (ec (ev1 rfl) (ec (ev1 rfl) en))) rfl rfl (fallZ_arg DD hDok a b hab) rfl rfl rfl rfl rfl rfl) ?_
              refine walk_r rfl rfl rfl (op_move (.inl rfl) (ev1 rfl)) ?_
              refine walk_r rfl rfl rfl (op_ext rfl (ev1 rfl) rfl) ?_
              refine walk_r rfl rfl rfl (op_ext rfl (ev1 rfl) rfl) ?_
              refine walk_w rfl rfl rfl (op_alloc 6 rfl zr26 rfl) (by simp only [upd, List.set_cons_zero, List.set_cons_succ]; exact rfl) ?_
              refine walk_s rfl rfl (op_stam rfl tb26 (ev1 rfl) (ev1 rfl) rfl rfl rfl rfl) (by simp only [upd, List.set_cons_zero, List.set_cons_succ]; exact rfl) ?_
              refine walk_r rfl rfl rfl (op_move (.inr rfl) (ev1 rfl)) ?_
              refine walk_nil ?_
              refine dwp_seq ?_
              refine dwp_seq ?_
              refine dwp_region ?_
              refine walk_r rfl rfl rfl (op_move (.inl rfl) (ev1 rfl)) ?_
              refine walk_r rfl rfl rfl (op_neq rfl (ev1 rfl) (ev1 rfl)) ?_
              refine walk_nil ?_
              refine dwp_if_t rfl (rfl) ?_
              refine dwp_seq ?_
              refine dwp_region ?_
              refine walk_r rfl rfl rfl (op_move (.inl rfl) (ev1 rfl)) ?_
              refine walk_r rfl rfl rfl (op_eql rfl (ev1 rfl) (ev1 rfl)) ?_
              refine walk_r rfl rfl rfl (op_move (.inl rfl) (ev1 rfl)) ?_
              refine walk_gr (gd_t rfl rfl rfl) rfl rfl rfl (op_ixl rfl ar55 (ev1 rfl) (ev1 rfl) (fun _ => by omega)) ?_
              refine walk_gr (gd_t rfl rfl rfl) rfl rfl rfl (op_ldo rfl tb3 (ev2 rfl) rfl rfl) ?_
              refine walk_gr (gd_t rfl rfl rfl) rfl rfl rfl (op_lss rfl (ev2 rfl) (ev1 rfl)) ?_
              refine walk_gr (gd_t rfl rfl rfl) rfl rfl rfl (op_move (.inl rfl) (ev2 rfl)) ?_
              refine walk_gr (gd_ff rfl rfl rfl) rfl rfl rfl (op_ixl rfl ar55 (ev1 rfl) (ev1 rfl) (fun _ => by omega)) ?_
              refine walk_gr (gd_ff rfl rfl rfl) rfl rfl rfl (op_ldo rfl tb3 (ev2 rfl) rfl rfl) ?_
              refine walk_gr (gd_ff rfl rfl rfl) rfl rfl rfl (op_lss rfl (ev2 rfl) (ev1 rfl)) ?_
              refine walk_gr (gd_t rfl rfl rfl) rfl rfl rfl (op_or rfl (ev2 rfl) (ev2 rfl)) ?_
              refine walk_r rfl rfl rfl (op_and rfl (ev1 rfl) (ev3 rfl id)) ?_
              refine walk_r rfl rfl rfl (op_move (.inr rfl) (ev1 rfl)) ?_
              refine walk_nil ?_
              refine dwp_ret ?_
              refine kend0 (rs1 rfl (rv_t rfl)) rfl ?_
              first | rfl | exact congrArg (fun b => D.val (.bool b)) (ab_c hab)
          · have h9 : opE (keepK (syS (ownK f h w dn fu)) (opsL y) k) ((opsL y)[k]'hkl) ≠ 321 := by simpa using c9_
            refine dwp_skip ?_
            refine dwp_seq ?_
            refine dwp_region ?_
            refine walk_r rfl rfl rfl (op_move (.inl rfl) (ev1 rfl)) ?_
            refine walk_r rfl rfl rfl (op_eql rfl (ev1 rfl) (ev1 rfl)) ?_
            refine walk_nil ?_
            refine dwp_cond rfl (fun c0_ => ?_) (fun c0_ => ?_)
            · have h0 : opE (keepK (syS (ownK f h w dn fu)) (opsL y) k) ((opsL y)[k]'hkl) = 0 := by simpa using c0_
              refine dwp_region ?_
              refine walk_r rfl rfl rfl (op_ldmw rfl tb26 (ev1 rfl) rfl rfl) ?_
              refine walk_s rfl rfl (op_stmw rfl tb26 (ev1 rfl) (ev1 rfl) rfl rfl rfl rfl) (by simp only [upd, List.set_cons_zero, List.set_cons_succ]; exact rfl) ?_
              refine walk_nil ?_
              refine dwp_region ?_
              refine walk_r rfl rfl rfl (op_add' rfl (ev1 rfl) (ev1 rfl) (fun _ => IntWalk.i64_in _ (by omega))) ?_
              refine walk_r rfl rfl rfl (op_move (.inl rfl) (ev1 rfl)) ?_
              refine walk_nil ?_
              refine ⟨k + 1, [0, 1, 2, 3], by omega, by simp only []; omega, rfl, ⟨rfl, rfl, rfl, rfl, rfl, rfl, rfl, trivial⟩, ⟨rfl, by rw [keepK_y hkl h0]; rfl, rfl, by rw [emK_succ hkl]; unfold emO; rw [if_neg cE]; rfl, trivial⟩⟩
            · have h0 : opE (keepK (syS (ownK f h w dn fu)) (opsL y) k) ((opsL y)[k]'hkl) ≠ 0 := by simpa using c0_
              refine dwp_skip ?_
              refine dwp_region ?_
              refine walk_r rfl rfl rfl (op_add' rfl (ev1 rfl) (ev1 rfl) (fun _ => IntWalk.i64_in _ (by omega))) ?_
              refine walk_r rfl rfl rfl (op_move (.inl rfl) (ev1 rfl)) ?_
              refine walk_nil ?_
              refine ⟨k + 1, [0, 1, 2, 3], by omega, by simp only []; omega, rfl, ⟨rfl, rfl, rfl, rfl, rfl, rfl, rfl, trivial⟩, ⟨rfl, by rw [keepK_n hkl h0]; rfl, rfl, by rw [emK_succ hkl]; unfold emO; rw [if_neg cE]; rfl, trivial⟩⟩
      · try simp only [decide_eq_true_eq, decide_eq_false_iff_not, beq_iff_eq, bne_iff_ne, beq_eq_false_iff_ne, bne_eq_false_iff_eq, Bool.not_eq_true', Bool.not_eq_false', Bool.and_eq_true, Bool.or_eq_true, Bool.or_eq_false_iff, ne_eq, Decidable.not_not, Int.not_lt, Int.not_le] at c5
        refine dwp_exit ?_
        refine dwp_seq ?_
        by_cases hab : 0 ≤ a ∧ 0 ≤ b
        · obtain ⟨DD, em, hDe, hee, hDok, hKP, hDN, hel4⟩ : ∃ (D : DkS) (em : List Nat), D = (keepK (syS (ownK f h w dn fu)) (opsL y) k) ∧ em = emK (opsL y) k ∧ D.ok ∧ KP (syS (ownK f h w dn fu)).f D em ∧ isD D ∧ em.length = 4 := ⟨_, _, rfl, rfl, hKok, hKK, hKD, hel⟩
          rw [← hDe, ← hee]
          refine dwp_holes 1 (by simp only [holes, List.cons_append, List.nil_append]; exact rfl) ?_
          refine dwp_region ?_
          refine walk_r rfl rfl rfl (op_ldmw rfl tb26 (ev1 rfl) rfl rfl) ?_
          refine walk_r rfl rfl rfl (op_ixl rfl ar55 (ev1 rfl) (ev1 rfl) (fun _ => by omega)) ?_
          refine walk_r rfl rfl rfl (op_ldo rfl tb3 (ev1 rfl) rfl rfl) ?_
          refine walk_r rfl rfl rfl (op_ixl rfl ar55 (ev1 rfl) (ev1 rfl) (fun _ => by omega)) ?_
          refine walk_r rfl rfl rfl (op_ldo rfl tb3 (ev1 rfl) rfl rfl) ?_
          refine walk_r rfl rfl rfl (dop_call [] [] [] rfl (ev1 rfl) (ec (ev1 rfl) (ec (ev1 rfl) (ec (ev1 rfl) en))) rfl rfl (fallD DD hDok a b hab) rfl rfl rfl rfl rfl rfl) ?_
          refine walk_r rfl rfl rfl (op_move (.inl rfl) (ev1 rfl)) ?_
          refine walk_r rfl rfl rfl (op_ext rfl (ev1 rfl) rfl) ?_
          refine walk_r rfl rfl rfl (op_ext rfl (ev1 rfl) rfl) ?_
          refine walk_w rfl rfl rfl (op_alloc 4 rfl zr26 rfl) (by simp only [upd, List.set_cons_zero, List.set_cons_succ]; exact rfl) ?_
          refine walk_s rfl rfl (op_stam rfl tb26 (ev1 rfl) (ev1 rfl) rfl rfl rfl rfl) (by simp only [upd, List.set_cons_zero, List.set_cons_succ]; exact rfl) ?_
          refine walk_r rfl rfl rfl (op_move (.inr rfl) (ev1 rfl)) ?_
          refine walk_nil ?_
          refine dwp_seq ?_
          refine dwp_seq ?_
          refine dwp_region ?_
          refine walk_r rfl rfl rfl (op_move (.inl rfl) (ev1 rfl)) ?_
          refine walk_r rfl rfl rfl (op_neq rfl (ev1 rfl) (ev1 rfl)) ?_
          refine walk_nil ?_
          refine dwp_if_f rfl (rfl) ?_
          refine dwp_skip ?_
          refine dwp_seq ?_
          have hfo := fall_ok hDok a.toNat b.toNat
          have huo := riseD_ok hfo
          have hfN := isN_fall hDN a.toNat b.toNat
          refine dwp_holes 1 (by simp only [holes, List.cons_append, List.nil_append]; exact rfl) ?_
          refine dwp_region ?_
          refine walk_r rfl rfl rfl (op_ldmw rfl tb26 (ev1 rfl) rfl rfl) ?_
          refine walk_r rfl rfl rfl (dop_call [] [] [] rfl (ev1 rfl) (ec (ev1 rfl) en) rfl rfl (riseZ (fallS DD a.toNat b.toNat) hfo rfl) rfl rfl rfl rfl rfl rfl) ?_
          refine walk_r rfl rfl rfl (op_move (.inl rfl) (ev1 rfl)) ?_
          refine walk_r rfl rfl rfl (op_ext rfl (ev1 rfl) rfl) ?_
          refine walk_r rfl rfl rfl (op_ext rfl (ev1 rfl) rfl) ?_
          refine walk_w rfl rfl rfl (op_alloc 5 rfl zr26 rfl) (by simp only [upd, List.set_cons_zero, List.set_cons_succ]; exact rfl) ?_
          refine walk_s rfl rfl (op_stam rfl tb26 (ev1 rfl) (ev1 rfl) rfl rfl rfl rfl) (by simp only [upd, List.set_cons_zero, List.set_cons_succ]; exact rfl) ?_
          refine walk_r rfl rfl rfl (op_move (.inr rfl) (ev1 rfl)) ?_
          refine walk_nil ?_
          refine dwp_seq ?_
          refine dwp_seq ?_
          refine dwp_region ?_
          refine walk_r rfl rfl rfl (op_move (.inl rfl) (ev1 rfl)) ?_
          refine walk_r rfl rfl rfl (op_neq rfl (ev1 rfl) (ev1 rfl)) ?_
          refine walk_r rfl rfl rfl (op_move (.inl rfl) (ev1 rfl)) ?_
          refine walk_gr (gd_f rfl rfl rfl) rfl rfl rfl (op_fa rfl fo26_3 (ev1 rfl)) ?_
          refine walk_gr (gd_f rfl rfl rfl) rfl rfl rfl (op_ldm rfl tb4 (ev2 rfl) rfl rfl) ?_
          refine walk_r rfl rfl rfl (op_or rfl (ev1 rfl) (ev3 rfl id)) ?_
          refine walk_r rfl rfl rfl (op_move (.inl rfl) (ev1 rfl)) ?_
          refine walk_gr (gd_f rfl rfl rfl) rfl rfl rfl (op_fa rfl fo26_2 (ev1 rfl)) ?_
          refine walk_gr (gd_f rfl rfl rfl) rfl rfl rfl (op_ldm rfl tb24 (ev2 rfl) rfl rfl) ?_
          refine walk_gr (gd_f rfl rfl rfl) rfl rfl rfl (op_lenm rfl sl24 (ev2 rfl)) ?_
          refine walk_gr (gd_f rfl rfl rfl) rfl rfl rfl (op_gtr rfl (ev2 rfl) (ev1 rfl)) ?_
          refine walk_r rfl rfl rfl (op_or rfl (ev1 rfl) (ev3 rfl id)) ?_
          refine walk_nil ?_
          refine dwp_if_f rfl (by simp [riseS]) ?_
          refine dwp_skip ?_
          refine dwp_seq ?_
          refine dwp_seq ?_
          refine dwp_region ?_
          refine walk_r rfl rfl rfl (op_move (.inl rfl) (ev1 rfl)) ?_
          refine walk_nil ?_
          refine dwp_block ?_
          refine dwp_loopS ⟨hs0, rfl⟩ (α := Nat) (fun j => [(135, .val (.int .i64 (j : Int)))]) [(9, _), (13, _), (19, _)] (fun j => []) [_, _, _, _, _, _] (fun j => j ≤ 4) (fun j => 4 - j) 0 [0, 1, 2, 3, 4, 5] (by simp) rfl ⟨rfl, rfl, rfl, trivial⟩ ⟨rfl, trivial⟩ ⟨rfl, rfl, rfl, rfl, rfl, rfl, trivial⟩ ?_
          intro j hx
          simp only [upd, List.set_cons_zero, List.set_cons_succ, List.cons_append, List.nil_append]
          have hj := hx
          refine dwp_seq ?_
          refine dwp_region ?_
          refine walk_r rfl rfl rfl (op_lss rfl (ev1 rfl) (ev1 rfl)) ?_
          refine walk_nil ?_
          refine dwp_seq ?_
          refine dwp_cond rfl (fun c23 => ?_) (fun c23 => ?_)
          · try simp only [decide_eq_true_eq, decide_eq_false_iff_not, beq_iff_eq, bne_iff_ne, beq_eq_false_iff_ne, bne_eq_false_iff_eq, Bool.not_eq_true', Bool.not_eq_false', Bool.and_eq_true, Bool.or_eq_true, Bool.or_eq_false_iff, ne_eq, Decidable.not_not, Int.not_lt, Int.not_le] at c23
            refine dwp_skip ?_
            refine dwp_seq ?_
            refine dwp_block ?_
            refine dwp_seq ?_
            have hj4 : j < 4 := by omega
            have hul : seF (riseS (fallS DD a.toNat b.toNat)).f (riseS (fallS DD a.toNat b.toNat)).w j = (fallS DD a.toNat b.toNat).f j := rfl
            refine dwp_region ?_
            refine walk_r rfl rfl rfl (op_move (.inl rfl) (ev1 rfl)) ?_
            refine walk_r rfl rfl rfl (op_move (.inr rfl) (ev1 rfl)) ?_
            refine walk_nil ?_
            refine dwp_seq ?_
            refine dwp_region ?_
            refine walk_r rfl rfl rfl (op_ldmw rfl tb26 (ev1 rfl) rfl rfl) ?_
            refine walk_r rfl rfl rfl (op_move (.inl rfl) (ev1 rfl)) ?_
            refine walk_r rfl rfl rfl (dop_call [] [] [] rfl (ev1 rfl) (ec (ev1 rfl) (ec (ev1 rfl) en)) rfl rfl (readI (riseS (fallS DD a.toNat b.toNat)) huo j hj4) rfl rfl rfl rfl rfl rfl) ?_
            refine walk_r rfl rfl rfl (op_move (.inl rfl) (ev1 rfl)) ?_
            refine walk_r rfl rfl rfl (op_ext rfl (ev1 rfl) rfl) ?_
            refine walk_r rfl rfl rfl (op_ext rfl (ev1 rfl) rfl) ?_
            refine walk_r rfl rfl rfl (op_move (.inr rfl) (ev1 rfl)) ?_
            refine walk_r rfl rfl rfl (op_move (.inr rfl) (ev1 rfl)) ?_
            refine walk_nil ?_
            refine dwp_seq ?_
            refine dwp_region ?_
            refine walk_r rfl rfl rfl (op_move (.inl rfl) (ev1 rfl)) ?_
            refine walk_r rfl rfl rfl (op_neq rfl (ev1 rfl) (ev1 rfl)) ?_
            refine walk_r rfl rfl rfl (op_move (.inl rfl) (ev1 rfl)) ?_
            refine walk_gr (gd_f rfl rfl rfl) rfl rfl rfl (op_move (.inl rfl) (ev1 rfl)) ?_
            refine walk_gr (gd_f rfl rfl rfl) rfl rfl rfl (op_ixfr (j := j) rfl ar62 (ev1 rfl) (ev2 rfl) (fun _ => by omega) (fun _ => by omega)) ?_
            refine walk_gr (gd_f rfl rfl rfl) rfl rfl rfl (op_ldf1 (0) rfl tb3 (ev2 rfl) rfl (fun _ => rfl) (by decide) (fun _ => by first | omega | (simp only [List.length_set]; omega)) rfl) ?_
            refine walk_gr (gd_f rfl rfl rfl) rfl rfl rfl (op_eql rfl (ev2 rfl) (ev1 rfl)) ?_
            refine walk_gr (gd_f rfl rfl rfl) rfl rfl rfl (op_move (.inl rfl) (ev2 rfl)) ?_
            refine walk_gr (gd_tt rfl rfl rfl) rfl rfl rfl (op_move (.inl rfl) (ev1 rfl)) ?_
            refine walk_gr (gd_tt rfl rfl rfl) rfl rfl rfl (op_move (.inl rfl) (ev1 rfl)) ?_
            refine walk_gr (gd_tt rfl rfl rfl) rfl rfl rfl (op_ixl rfl ar23 (ev1 rfl) (ev2 rfl) (fun _ => by omega)) ?_
            refine walk_gr (gd_tt rfl rfl rfl) rfl rfl rfl (op_ldm rfl tb22 (ev2 rfl) rfl ((wasK_at hj4))) ?_
            refine walk_gr (gd_tt rfl rfl rfl) rfl rfl rfl (dop_call [] [] [] rfl (ev1 rfl) (ec (ev2 rfl) (ec (ev2 rfl) en)) rfl rfl (hasp_d (seF (riseS (fallS DD a.toNat b.toNat)).f (riseS (fallS DD a.toNat b.toNat)).w j) ((syS (ownK f h w dn fu)).f j) (hfN j hj4) (hsD.1 j hj4)) rfl rfl rfl rfl rfl rfl) ?_
            refine walk_gr (gd_tt rfl rfl rfl) rfl rfl rfl (op_not rfl (ev2 rfl)) ?_
            refine walk_gr (gd_f rfl rfl rfl) rfl rfl rfl (op_and rfl (ev2 rfl) (ev2 rfl)) ?_
            refine walk_r rfl rfl rfl (op_or rfl (ev1 rfl) (ev3 rfl id)) ?_
            refine walk_nil ?_
            refine dwp_if_f rfl (kp_c hDok hKP a.toNat b.toNat hj4) ?_
            refine dwp_skip ?_
            refine dwp_region ?_
            refine walk_r rfl rfl rfl (op_add' rfl (ev1 rfl) (ev1 rfl) (fun _ => IntWalk.i64_in _ (by omega))) ?_
            refine walk_r rfl rfl rfl (op_move (.inl rfl) (ev1 rfl)) ?_
            refine walk_nil ?_
            refine ⟨j + 1, [0, 1, 2, 3, 4, 5], by omega, by simp only []; omega, rfl, ⟨rfl, rfl, rfl, rfl, trivial⟩, ⟨rfl, rfl, rfl, rfl, rfl, rfl, trivial⟩⟩
          · try simp only [decide_eq_true_eq, decide_eq_false_iff_not, beq_iff_eq, bne_iff_ne, beq_eq_false_iff_ne, bne_eq_false_iff_eq, Bool.not_eq_true', Bool.not_eq_false', Bool.and_eq_true, Bool.or_eq_true, Bool.or_eq_false_iff, ne_eq, Decidable.not_not, Int.not_lt, Int.not_le] at c23
            refine dwp_exit ?_
            refine dwp_seq ?_
            refine dwp_region ?_
            refine walk_r rfl rfl rfl (op_move (.inr rfl) (ev1 rfl)) ?_
            refine walk_nil ?_
            refine dwp_ret ?_
            refine kend0 (rs1 rfl (rv_t rfl)) rfl ?_
            first | rfl | exact congrArg (fun b => D.val (.bool b)) (ab_c hab)
        · obtain ⟨DD, em, hDe, hee, hDok, hKP, hDN, hel4⟩ : ∃ (D : DkS) (em : List Nat), D = (keepK (syS (ownK f h w dn fu)) (opsL y) k) ∧ em = emK (opsL y) k ∧ D.ok ∧ KP (syS (ownK f h w dn fu)).f D em ∧ isD D ∧ em.length = 4 := ⟨_, _, rfl, rfl, hKok, hKK, hKD, hel⟩
          rw [← hDe, ← hee]
          refine dwp_holes 1 (by simp only [holes, List.cons_append, List.nil_append]; exact rfl) ?_
          refine dwp_region ?_
          refine walk_r rfl rfl rfl (op_ldmw rfl tb26 (ev1 rfl) rfl rfl) ?_
          refine walk_r rfl rfl rfl (op_ixl rfl ar55 (ev1 rfl) (ev1 rfl) (fun _ => by omega)) ?_
          refine walk_r rfl rfl rfl (op_ldo rfl tb3 (ev1 rfl) rfl rfl) ?_
          refine walk_r rfl rfl rfl (op_ixl rfl ar55 (ev1 rfl) (ev1 rfl) (fun _ => by omega)) ?_
          refine walk_r rfl rfl rfl (op_ldo rfl tb3 (ev1 rfl) rfl rfl) ?_
          refine walk_r rfl rfl rfl (dop_call [] [] [] rfl (ev1 rfl) (ec (ev1 rfl) (ec (ev1 rfl) (ec (ev1 rfl) en))) rfl rfl (fallZ_arg DD hDok a b hab) rfl rfl rfl rfl rfl rfl) ?_
          refine walk_r rfl rfl rfl (op_move (.inl rfl) (ev1 rfl)) ?_
          refine walk_r rfl rfl rfl (op_ext rfl (ev1 rfl) rfl) ?_
          refine walk_r rfl rfl rfl (op_ext rfl (ev1 rfl) rfl) ?_
          refine walk_w rfl rfl rfl (op_alloc 4 rfl zr26 rfl) (by simp only [upd, List.set_cons_zero, List.set_cons_succ]; exact rfl) ?_
          refine walk_s rfl rfl (op_stam rfl tb26 (ev1 rfl) (ev1 rfl) rfl rfl rfl rfl) (by simp only [upd, List.set_cons_zero, List.set_cons_succ]; exact rfl) ?_
          refine walk_r rfl rfl rfl (op_move (.inr rfl) (ev1 rfl)) ?_
          refine walk_nil ?_
          refine dwp_seq ?_
          refine dwp_seq ?_
          refine dwp_region ?_
          refine walk_r rfl rfl rfl (op_move (.inl rfl) (ev1 rfl)) ?_
          refine walk_r rfl rfl rfl (op_neq rfl (ev1 rfl) (ev1 rfl)) ?_
          refine walk_nil ?_
          refine dwp_if_t rfl (rfl) ?_
          refine dwp_seq ?_
          refine dwp_region ?_
          refine walk_r rfl rfl rfl (op_move (.inl rfl) (ev1 rfl)) ?_
          refine walk_r rfl rfl rfl (op_eql rfl (ev1 rfl) (ev1 rfl)) ?_
          refine walk_r rfl rfl rfl (op_move (.inl rfl) (ev1 rfl)) ?_
          refine walk_gr (gd_t rfl rfl rfl) rfl rfl rfl (op_ixl rfl ar55 (ev1 rfl) (ev1 rfl) (fun _ => by omega)) ?_
          refine walk_gr (gd_t rfl rfl rfl) rfl rfl rfl (op_ldo rfl tb3 (ev2 rfl) rfl rfl) ?_
          refine walk_gr (gd_t rfl rfl rfl) rfl rfl rfl (op_lss rfl (ev2 rfl) (ev1 rfl)) ?_
          refine walk_gr (gd_t rfl rfl rfl) rfl rfl rfl (op_move (.inl rfl) (ev2 rfl)) ?_
          refine walk_gr (gd_ff rfl rfl rfl) rfl rfl rfl (op_ixl rfl ar55 (ev1 rfl) (ev1 rfl) (fun _ => by omega)) ?_
          refine walk_gr (gd_ff rfl rfl rfl) rfl rfl rfl (op_ldo rfl tb3 (ev2 rfl) rfl rfl) ?_
          refine walk_gr (gd_ff rfl rfl rfl) rfl rfl rfl (op_lss rfl (ev2 rfl) (ev1 rfl)) ?_
          refine walk_gr (gd_t rfl rfl rfl) rfl rfl rfl (op_or rfl (ev2 rfl) (ev2 rfl)) ?_
          refine walk_r rfl rfl rfl (op_and rfl (ev1 rfl) (ev3 rfl id)) ?_
          refine walk_r rfl rfl rfl (op_move (.inr rfl) (ev1 rfl)) ?_
          refine walk_nil ?_
          refine dwp_ret ?_
          refine kend0 (rs1 rfl (rv_t rfl)) rfl ?_
          first | rfl | exact congrArg (fun b => D.val (.bool b)) (ab_c hab)
end Go.Proofs.Ytjecmkaggobcjaa
