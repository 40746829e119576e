/- the law of sums, walked -/
import Derived.Test.YtnpfbeoibbejeaaKp
import Derived.Test.YtnpfbeoibbejeaaKo
import Derived.Test.YtnpfbeoibbejeaaLap
namespace Go.Proofs.Ytnpfbeoibbejeaa
set_option linter.unusedVariables false
set_option linter.unusedSimpArgs false
open Go.RowKit

abbrev fewN (l : List Nat) : List Nat := l.take (min l.length 400)
abbrev un32 (n : Nat) : List Value := [.int .u32 (n : Int)]
def fsN (ps : List (List Nat)) (k : Nat) : List (List Nat) := (ps.take k).map fewN
theorem vwL_flat {α : Type} {σ : List Nat} {V : Nat → Bool} {M : List Blk} {f : α → D} (h : ∀ a, vw σ V M (f a) = some (f a)) : ∀ l : List α, vwL σ V M (l.flatMap fun a => [f a]) = some (l.flatMap fun a => [f a])
  | [] => rfl
  | a :: l => by
    rw [List.flatMap_cons]
    show vwL σ V M (f a :: l.flatMap fun a => [f a]) = _
    unfold vwL
    rw [h a, vwL_flat h l]
    rfl
theorem arx_fits {σ : List Nat} {V : Nat → Bool} {M : List Blk} {T : TypeId} {n n' : Nat} {l l' : List D} (hn : n = n') (h : l = l') (hv : vwL σ V M l' = some l') : (vwL σ V M l).map (Blk.arx T 1 n) = some (Blk.arx T 1 n' l') := by
  subst hn h
  rw [hv]
  rfl
theorem flat_1 {α : Type} (l : List α) : [l].flatten = l := by simp
theorem fsN_zero (ps : List (List Nat)) : fsN ps 0 = [] := rfl
theorem fsN_succ {ps : List (List Nat)} {k : Nat} (h : k < ps.length) : fsN ps (k + 1) = fsN ps k ++ [fewN ps[k]] := by
  unfold fsN
  rw [List.take_succ_eq_append_getElem h, List.map_append]
  rfl
theorem fsN_len {ps : List (List Nat)} {k : Nat} (h : k ≤ ps.length) : (fsN ps k).length = k := by
  unfold fsN
  rw [List.length_map, List.length_take]
  omega
theorem fsN_at {ps : List (List Nat)} {k j : Nat} (h : j < (fsN ps k).length) (h2 : j < ps.length) : (fsN ps k)[j] = fewN ps[j] := by
  unfold fsN
  simp
theorem fsN_isN {ps : List (List Nat)} (h : ∀ p ∈ ps, isN p) (k : Nat) : ∀ p ∈ fsN ps k, isN p := by
  intro p hp
  obtain ⟨q, hq, rfl⟩ := List.mem_map.1 hp
  exact few_lt (h q (List.mem_of_mem_take hq))
theorem fsN_le {ps : List (List Nat)} (k : Nat) : ∀ p ∈ fsN ps k, p.length ≤ 400 := by
  intro p hp
  obtain ⟨q, hq, rfl⟩ := List.mem_map.1 hp
  exact few_len q
theorem fl_le {ls : List (List Nat)} (h : ∀ p ∈ ls, p.length ≤ 400) : ls.flatten.length ≤ 400 * ls.length := by
  induction ls with
  | nil => simp
  | cons a l ih =>
    have h1 := h a (List.mem_cons_self ..)
    have h2 := ih fun p hp => h p (List.mem_cons_of_mem _ hp)
    rw [List.flatten_cons, List.length_append, List.length_cons]
    omega
theorem table_f : DFun Try.prog 16 [] [] (.val (.agg (tabW.flatMap un32).toArray)) [] := by
  have h := table_d
  have e : ∀ l : List Nat, l.map u32v = l.flatMap un32 := fun l => by
    induction l with
    | nil => rfl
    | cons x l ih => rw [List.map_cons, ih, List.flatMap_cons]; rfl
  rw [e] at h
  exact h
theorem u8_id {i : Nat} (h : i < 256) : IntKind.u8.wrap (i : Int) = (i : Int) := IntWalk.u8_in _ (by omega)
theorem fed_tab {i : Nat} (h : i < 256) : tabW.getD i 0 = fed 0 [i] := by
  rw [tabW_at h, fed, fed, Nat.zero_xor]

set_option maxRecDepth 4000 in
set_option maxHeartbeats 1000000 in
theorem sums_d (ps : List (List Nat)) (ws : List Nat) (hps : ∀ p ∈ ps, isN p) (hws : ∀ w ∈ ws, w < 2 ^ 32) : DFun Try.prog 3 [.slm 1 ps.length (ps.flatMap fun p => [rN p]), .slf 1 ws.length (ws.flatMap un32)] [] (.val (.bool true)) [] := by
  refine dcalls_go (N := 87) 0 (by kernel_rfl) Try.func3 rfl rfl rfl (by simp only [fr0, Nat.zero_add, Nat.reduceAdd]; exact rfl) rfl fun s0 hs0 => ?_
  refine dwp_lenm (t := 0) rfl fun hl0 hL0 => ?_
  refine dwp_len (t := 1) rfl fun hl1 hL1 => ?_
  refine dwp_seq ?_
  refine dwp_region ?_
  refine walk_r rfl rfl rfl (op_move (.inr rfl) (ev1 rfl)) ?_
  refine walk_nil ?_
  refine dwp_seq ?_
  refine dwp_seq ?_
  refine dwp_region ?_
  refine walk_r rfl rfl rfl (dop_call [] [] [] rfl (ev1 rfl) en rfl rfl (wakes_d) rfl rfl rfl rfl rfl rfl) ?_
  refine walk_r rfl rfl rfl (op_not rfl (ev1 rfl)) ?_
  refine walk_nil ?_
  refine dwp_if_f rfl (rfl) ?_
  refine dwp_skip ?_
  refine dwp_seq ?_
  refine dwp_region ?_
  refine walk_r rfl rfl rfl (op_move (.inr rfl) (ev1 rfl)) ?_
  refine walk_nil ?_
  refine dwp_seq ?_
  refine dwp_region ?_
  refine walk_r rfl rfl rfl (op_move (.inr rfl) (ev1 rfl)) ?_
  refine walk_nil ?_
  refine dwp_seq ?_
  refine dwp_seq ?_
  refine dwp_region ?_
  refine walk_r rfl rfl rfl (op_move (.inl rfl) (ev1 rfl)) ?_
  refine walk_r rfl rfl rfl (op_lenm rfl sl22 (ev1 rfl)) ?_
  refine walk_r rfl rfl rfl (op_move (.inl rfl) (ev1 rfl)) ?_
  refine walk_nil ?_
  refine dwp_block ?_
  refine dwp_adopt 5 5 1 rfl rfl rfl ?_
  refine dwp_adoptx 6 25 1 rfl rfl rfl ?_
  refine dwp_loopS ⟨hs0, rfl⟩ (α := Nat) (fun k => [(19, .val (.int .i64 (k : Int)))]) [(0, _), (1, _), (5, _), (6, _), (17, _), (18, _)] (fun k => [(0, .arr 5 1 (fsN ps k).flatten.length ((fsN ps k).flatten.flatMap un8)), (1, .arx 25 1 (fsN ps k).length ((fsN ps k).flatMap fun p => [rN p]))]) [.hole, .hole] (fun k => k ≤ ps.length ∧ k ≤ 6) (fun k => ps.length - k) 0 [0, 1] (⟨by omega, by omega⟩) rfl ⟨rfl, rfl, rfl, rfl, rfl, rfl, trivial⟩ ⟨rfl, trivial⟩ ⟨rfl, rfl, trivial⟩ ?_
  intro k hx
  simp only [upd, List.set_cons_zero, List.set_cons_succ, List.cons_append, List.nil_append]
  obtain ⟨hk, h6⟩ := hx
  have hfl := fsN_len hk
  have hfi := fsN_isN hps k
  have hfe := fl_le (fsN_le (ps := ps) k)
  have hfn := flat_lt hfi
  refine dwp_seq ?_
  refine dwp_region ?_
  refine walk_r rfl rfl rfl (op_lss rfl (ev1 rfl) (ev1 rfl)) ?_
  refine walk_nil ?_
  refine dwp_seq ?_
  refine dwp_cond rfl (fun c2 => ?_) (fun c2 => ?_)
  · try simp only [decide_eq_true_eq, decide_eq_false_iff_not, beq_iff_eq, bne_iff_ne, beq_eq_false_iff_ne, bne_eq_false_iff_eq, Bool.not_eq_true', Bool.not_eq_false', Bool.and_eq_true, Bool.or_eq_true, Bool.or_eq_false_iff, ne_eq, Decidable.not_not, Int.not_lt, Int.not_le] at c2
    refine dwp_skip ?_
    refine dwp_seq ?_
    refine dwp_block ?_
    refine dwp_seq ?_
    refine dwp_region ?_
    refine walk_r rfl rfl rfl (op_move (.inl rfl) (ev1 rfl)) ?_
    refine walk_r rfl rfl rfl (op_ixm (k) rfl sl22 (ev1 rfl) (ev1 rfl) (fun _ => rfl) (flat1_at (by omega))) ?_
    refine walk_r rfl rfl rfl (op_lddm rfl tb25 (ev1 rfl) rfl) ?_
    refine walk_r rfl rfl rfl (op_move (.inr rfl) (ev1 rfl)) ?_
    refine walk_r rfl rfl rfl (op_move (.inr rfl) (ev1 rfl)) ?_
    refine walk_nil ?_
    refine dwp_seq ?_
    refine dwp_seq ?_
    refine dwp_region ?_
    refine walk_r rfl rfl rfl (op_move (.inl rfl) (ev1 rfl)) ?_
    refine walk_r rfl rfl rfl (op_eql rfl (ev1 rfl) (ev1 rfl)) ?_
    refine walk_nil ?_
    refine dwp_cond rfl (fun c3 => ?_) (fun c3 => ?_)
    · try simp only [decide_eq_true_eq, decide_eq_false_iff_not, beq_iff_eq, bne_iff_ne, beq_eq_false_iff_ne, bne_eq_false_iff_eq, Bool.not_eq_true', Bool.not_eq_false', Bool.and_eq_true, Bool.or_eq_true, Bool.or_eq_false_iff, ne_eq, Decidable.not_not, Int.not_lt, Int.not_le] at c3
      refine dwp_exit ?_
      refine dwp_seq ?_
      refine dwp_seq ?_
      refine dwp_give 6 (nlL_flat1 (fun _ => rfl) _) rfl rfl (by simp only [List.set_cons_zero, List.set_cons_succ]; exact rfl) ?_
      refine dwp_region ?_
      refine walk_r rfl rfl rfl (op_move (.inl rfl) (ev1 rfl)) ?_
      refine walk_r rfl rfl rfl (dop_call [] [] [] rfl (ev1 rfl) (ec (ev1 rfl) en) rfl rfl (sum_c (fsN ps k) hfi (by omega) (fun p hp => by have := fsN_le k p hp; omega)) rfl rfl rfl rfl rfl rfl) ?_
      refine walk_r rfl rfl rfl (op_move (.inl rfl) (ev1 rfl)) ?_
      refine walk_r rfl rfl rfl (dop_call [] [0] [] rfl (ev1 rfl) (ec (ev1 rfl) en) rfl rfl (sum_r (fsN ps k).flatten hfn (by omega)) rfl rfl rfl rfl rfl rfl) ?_
      refine walk_r rfl rfl rfl (op_neq rfl (ev1 rfl) (ev1 rfl)) ?_
      refine walk_nil ?_
      refine dwp_if_f rfl (by simp) ?_
      refine dwp_skip ?_
      refine dwp_seq ?_
      refine dwp_seq ?_
      refine dwp_region ?_
      refine walk_r rfl rfl rfl (op_move (.inl rfl) (ev1 rfl)) ?_
      refine walk_r rfl rfl rfl (op_lenm rfl sl22 (ev1 rfl)) ?_
      refine walk_r rfl rfl rfl (op_move (.inl rfl) (ev1 rfl)) ?_
      refine walk_nil ?_
      refine dwp_block ?_
      refine dwp_loopS ⟨hs0, rfl⟩ (α := Nat) (fun j => [(43, .val (.int .i64 (j : Int)))]) [(0, _), (1, _), (5, _), (41, _), (42, _)] (fun j => []) [_, _] (fun j => j ≤ (fsN ps k).length) (fun j => (fsN ps k).length - j) 0 [0, 1] (by simp) rfl ⟨rfl, rfl, rfl, rfl, rfl, trivial⟩ ⟨rfl, trivial⟩ ⟨rfl, rfl, trivial⟩ ?_
      intro j hx
      simp only [upd, List.set_cons_zero, List.set_cons_succ, List.cons_append, List.nil_append]
      have hj := hx
      refine dwp_seq ?_
      refine dwp_region ?_
      refine walk_r rfl rfl rfl (op_lss rfl (ev1 rfl) (ev1 rfl)) ?_
      refine walk_nil ?_
      refine dwp_seq ?_
      refine dwp_cond rfl (fun c5 => ?_) (fun c5 => ?_)
      · try simp only [decide_eq_true_eq, decide_eq_false_iff_not, beq_iff_eq, bne_iff_ne, beq_eq_false_iff_ne, bne_eq_false_iff_eq, Bool.not_eq_true', Bool.not_eq_false', Bool.and_eq_true, Bool.or_eq_true, Bool.or_eq_false_iff, ne_eq, Decidable.not_not, Int.not_lt, Int.not_le] at c5
        refine dwp_skip ?_
        refine dwp_seq ?_
        refine dwp_block ?_
        refine dwp_seq ?_
        refine dwp_region ?_
        refine walk_r rfl rfl rfl (op_move (.inl rfl) (ev1 rfl)) ?_
        refine walk_r rfl rfl rfl (op_ixm (j) rfl sl22 (ev1 rfl) (ev1 rfl) (fun _ => rfl) (flat1_at (by omega))) ?_
        refine walk_r rfl rfl rfl (op_lddm rfl tb25 (ev1 rfl) rfl) ?_
        refine walk_r rfl rfl rfl (op_move (.inr rfl) (ev1 rfl)) ?_
        refine walk_r rfl rfl rfl (op_move (.inr rfl) (ev1 rfl)) ?_
        refine walk_nil ?_
        refine dwp_seq ?_
        refine dwp_region ?_
        refine walk_r rfl rfl rfl (op_move (.inl rfl) (ev1 rfl)) ?_
        refine walk_r rfl rfl rfl (op_move (.inl rfl) (ev1 rfl)) ?_
        refine walk_r rfl rfl rfl (op_move (.inl rfl) (ev1 rfl)) ?_
        refine walk_r rfl rfl rfl (op_ixm (j) rfl sl22 (ev1 rfl) (ev1 rfl) (fun _ => rfl) (flat1_at (by omega))) ?_
        refine walk_r rfl rfl rfl (op_lddm rfl tb25 (ev1 rfl) rfl) ?_
        refine walk_r rfl rfl rfl (dop_call [] [] [] rfl (ev1 rfl) (ec (ev1 rfl) en) rfl rfl (few_d ps[j]) rfl rfl rfl rfl rfl rfl) ?_
        refine walk_r rfl rfl rfl (dop_call [] [] [] rfl (ev1 rfl) (ec (ev1 rfl) (ec (ev1 rfl) en)) rfl rfl (equalN _ _) rfl rfl rfl rfl rfl rfl) ?_
        refine walk_r rfl rfl rfl (op_not rfl (ev1 rfl)) ?_
        refine walk_nil ?_
        refine dwp_if_f rfl (by rw [fsN_at (by omega) (by omega)]; simp) ?_
        refine dwp_skip ?_
        refine dwp_region ?_
        refine walk_r rfl rfl rfl (op_add' rfl (ev1 rfl) (ev1 rfl) (fun _ => IntWalk.i64_in _ (by omega))) ?_
        refine walk_r rfl rfl rfl (op_move (.inl rfl) (ev1 rfl)) ?_
        refine walk_nil ?_
        refine ⟨j + 1, [0, 1], by omega, by simp only []; omega, rfl, ⟨rfl, rfl, rfl, rfl, rfl, rfl, trivial⟩, ⟨rfl, rfl, trivial⟩⟩
      · try simp only [decide_eq_true_eq, decide_eq_false_iff_not, beq_iff_eq, bne_iff_ne, beq_eq_false_iff_ne, bne_eq_false_iff_eq, Bool.not_eq_true', Bool.not_eq_false', Bool.and_eq_true, Bool.or_eq_true, Bool.or_eq_false_iff, ne_eq, Decidable.not_not, Int.not_lt, Int.not_le] at c5
        refine dwp_exit ?_
        refine dwp_seq ?_
        refine dwp_seq ?_
        refine dwp_region ?_
        refine walk_r rfl rfl rfl (op_move (.inl rfl) (ev1 rfl)) ?_
        refine walk_r rfl rfl rfl (op_len rfl sl23 (ev1 rfl)) ?_
        refine walk_r rfl rfl rfl (op_move (.inl rfl) (ev1 rfl)) ?_
        refine walk_nil ?_
        refine dwp_block ?_
        refine dwp_loopS ⟨hs0, rfl⟩ (α := Nat) (fun i => [(59, .val (.int .i64 (i : Int)))]) [(5, _), (57, _), (58, _)] (fun i => []) [_, _] (fun i => i ≤ ws.length ∧ i ≤ 6) (fun i => ws.length - i) 0 [0, 1] (⟨by omega, by omega⟩) rfl ⟨rfl, rfl, rfl, trivial⟩ ⟨rfl, trivial⟩ ⟨rfl, rfl, trivial⟩ ?_
        intro i hx
        simp only [upd, List.set_cons_zero, List.set_cons_succ, List.cons_append, List.nil_append]
        obtain ⟨hi, hi6⟩ := hx
        refine dwp_seq ?_
        refine dwp_region ?_
        refine walk_r rfl rfl rfl (op_lss rfl (ev1 rfl) (ev1 rfl)) ?_
        refine walk_nil ?_
        refine dwp_seq ?_
        refine dwp_cond rfl (fun c7 => ?_) (fun c7 => ?_)
        · try simp only [decide_eq_true_eq, decide_eq_false_iff_not, beq_iff_eq, bne_iff_ne, beq_eq_false_iff_ne, bne_eq_false_iff_eq, Bool.not_eq_true', Bool.not_eq_false', Bool.and_eq_true, Bool.or_eq_true, Bool.or_eq_false_iff, ne_eq, Decidable.not_not, Int.not_lt, Int.not_le] at c7
          refine dwp_skip ?_
          refine dwp_seq ?_
          refine dwp_block ?_
          refine dwp_seq ?_
          refine dwp_region ?_
          refine walk_r rfl rfl rfl (op_move (.inl rfl) (ev1 rfl)) ?_
          refine walk_r rfl rfl rfl (op_ixsr (j := i) rfl sl23 (ev1 rfl) (ev1 rfl) (fun _ => rfl) (by decide) (by omega) (by omega)) ?_
          refine walk_r rfl rfl rfl (op_ldod rfl tb27 (ev1 rfl) rfl) ?_
          refine walk_r rfl rfl rfl (op_move (.inr rfl) (ev1 rfl)) ?_
          refine walk_r rfl rfl rfl (op_move (.inr rfl) (ev1 rfl)) ?_
          refine walk_nil ?_
          refine dwp_seq ?_
          refine dwp_seq ?_
          refine dwp_region ?_
          refine walk_r rfl rfl rfl (op_move (.inl rfl) (ev1 rfl)) ?_
          refine walk_r rfl rfl rfl (op_eql rfl (ev1 rfl) (ev1 rfl)) ?_
          refine walk_nil ?_
          refine dwp_cond rfl (fun c8 => ?_) (fun c8 => ?_)
          · try simp only [decide_eq_true_eq, decide_eq_false_iff_not, beq_iff_eq, bne_iff_ne, beq_eq_false_iff_ne, bne_eq_false_iff_eq, Bool.not_eq_true', Bool.not_eq_false', Bool.and_eq_true, Bool.or_eq_true, Bool.or_eq_false_iff, ne_eq, Decidable.not_not, Int.not_lt, Int.not_le] at c8
            refine dwp_exit ?_
            refine dwp_seq ?_
            refine dwp_holes 1 (by simp only [holes, List.cons_append, List.nil_append]; exact rfl) ?_
            refine dwp_region ?_
            refine walk_r rfl rfl rfl (dop_call [] [] [] rfl (ev1 rfl) en rfl rfl (table_f) rfl rfl rfl rfl rfl rfl) ?_
            refine walk_w rfl rfl rfl (op_alloc 2 rfl zr32 rfl) (by simp only [upd, List.set_cons_zero, List.set_cons_succ]; exact rfl) ?_
            refine walk_s rfl rfl (op_stwa rfl tb32 (ev1 rfl) (ev1 rfl) rfl rfl rfl rfl) (by simp only [upd, List.set_cons_zero, List.set_cons_succ]; exact rfl) ?_
            refine walk_nil ?_
            refine dwp_seq ?_
            refine dwp_seq ?_
            refine dwp_region ?_
            refine walk_r rfl rfl rfl (op_move (.inl rfl) (ev1 rfl)) ?_
            refine walk_nil ?_
            refine dwp_block ?_
            refine dwp_loopS ⟨hs0, rfl⟩ (α := Nat) (fun q => [(75, .val (.int .i64 (q : Int)))]) [(13, _)] (fun q => []) [_, _, _] (fun q => q ≤ 256) (fun q => 256 - q) 0 [0, 1, 2] (by simp) rfl ⟨rfl, trivial⟩ ⟨rfl, trivial⟩ ⟨rfl, rfl, rfl, trivial⟩ ?_
            intro q hx
            simp only [upd, List.set_cons_zero, List.set_cons_succ, List.cons_append, List.nil_append]
            have hq := hx
            refine dwp_seq ?_
            refine dwp_region ?_
            refine walk_r rfl rfl rfl (op_lss rfl (ev1 rfl) (ev1 rfl)) ?_
            refine walk_nil ?_
            refine dwp_seq ?_
            refine dwp_cond rfl (fun c9 => ?_) (fun c9 => ?_)
            · try simp only [decide_eq_true_eq, decide_eq_false_iff_not, beq_iff_eq, bne_iff_ne, beq_eq_false_iff_ne, bne_eq_false_iff_eq, Bool.not_eq_true', Bool.not_eq_false', Bool.and_eq_true, Bool.or_eq_true, Bool.or_eq_false_iff, ne_eq, Decidable.not_not, Int.not_lt, Int.not_le] at c9
              refine dwp_skip ?_
              refine dwp_seq ?_
              refine dwp_block ?_
              refine dwp_seq ?_
              refine dwp_region ?_
              refine walk_r rfl rfl rfl (op_move (.inl rfl) (ev1 rfl)) ?_
              refine walk_r rfl rfl rfl (op_move (.inr rfl) (ev1 rfl)) ?_
              refine walk_nil ?_
              refine dwp_seq ?_
              refine dwp_draw [([], []), ([], []), ([2], []), ([], []), ([], []), ([], []), ([], []), ([], [])] mixed (by kernel_rfl) ?_
              refine lex_r rfl rfl (op_move (.inl rfl) (ev1 rfl)) ?_
              refine lex_r rfl rfl (op_ixfr (j := q) rfl ar32 (ev1 rfl) (ev1 rfl) (fun _ => by omega) (fun _ => by omega)) ?_
              refine lex_r rfl rfl (op_ldf1 (0) rfl tb27 (ev1 rfl) rfl (fun _ => rfl) (by decide) (fun _ => by rw [tabW_len]; omega) rfl) ?_
              refine lex_r rfl rfl (op_move (.inl rfl) (ev1 rfl)) ?_
              refine lex_r rfl rfl (op_conv' ty3 kn5 rfl (ev1 rfl) (fun _ => u8_id (by omega))) ?_
              refine lex_r rfl rfl (op_bs (ps := [(0, .tmp 82)]) rfl sl25 zr5 rfl (vc (ev1 rfl) vn) rfl (by decide) (by decide)) ?_
              refine lex_r rfl rfl (dop_call [] [] [] rfl (ev1 rfl) (ec (ev1 rfl) (ec (ev1 rfl) en)) rfl rfl (fed_r 0 [q] (by decide) (by intro x hx; simp at hx; omega) (by simp)) rfl rfl rfl rfl rfl rfl) ?_
              refine lex_r rfl rfl (op_neq rfl (ev1 rfl) (ev1 rfl)) ?_
              refine lex_nil ?_
              refine dwp_if_f rfl (by rw [fed_tab (by omega)]; simp) ?_
              refine dwp_skip ?_
              refine dwp_region ?_
              refine walk_r rfl rfl rfl (op_add' rfl (ev1 rfl) (ev1 rfl) (fun _ => IntWalk.i64_in _ (by omega))) ?_
              refine walk_r rfl rfl rfl (op_move (.inl rfl) (ev1 rfl)) ?_
              refine walk_nil ?_
              refine ⟨q + 1, [0, 1, 2], by omega, by simp only []; omega, rfl, ⟨rfl, rfl, trivial⟩, ⟨rfl, rfl, rfl, trivial⟩⟩
            · try simp only [decide_eq_true_eq, decide_eq_false_iff_not, beq_iff_eq, bne_iff_ne, beq_eq_false_iff_ne, bne_eq_false_iff_eq, Bool.not_eq_true', Bool.not_eq_false', Bool.and_eq_true, Bool.or_eq_true, Bool.or_eq_false_iff, ne_eq, Decidable.not_not, Int.not_lt, Int.not_le] at c9
              refine dwp_exit ?_
              refine dwp_seq ?_
              refine dwp_region ?_
              refine walk_r rfl rfl rfl (op_move (.inr rfl) (ev1 rfl)) ?_
              refine walk_nil ?_
              refine dwp_ret ?_
              refine kend0 (rs1 rfl (rv_t rfl)) rfl ?_
              rfl
          · try simp only [decide_eq_true_eq, decide_eq_false_iff_not, beq_iff_eq, bne_iff_ne, beq_eq_false_iff_ne, bne_eq_false_iff_eq, Bool.not_eq_true', Bool.not_eq_false', Bool.and_eq_true, Bool.or_eq_true, Bool.or_eq_false_iff, ne_eq, Decidable.not_not, Int.not_lt, Int.not_le] at c8
            refine dwp_skip ?_
            refine dwp_seq ?_
            have hwi := hws ws[i] (List.getElem_mem ..)
            refine dwp_region ?_
            refine walk_r rfl rfl rfl (op_move (.inl rfl) (ev1 rfl)) ?_
            refine walk_r rfl rfl rfl (op_move (.inl rfl) (ev1 rfl)) ?_
            refine walk_r rfl rfl rfl (dop_call [] [0] [] rfl (ev1 rfl) (ec (ev1 rfl) (ec (ev1 rfl) en)) rfl rfl (more_c ws[i] hwi (fsN ps k).flatten hfn (by omega)) rfl rfl rfl rfl rfl rfl) ?_
            refine walk_r rfl rfl rfl (op_move (.inl rfl) (ev1 rfl)) ?_
            refine walk_r rfl rfl rfl (op_move (.inl rfl) (ev1 rfl)) ?_
            refine walk_r rfl rfl rfl (dop_call [] [0] [] rfl (ev1 rfl) (ec (ev1 rfl) (ec (ev1 rfl) en)) rfl rfl (more_r ws[i] (fsN ps k).flatten hwi hfn (by omega)) rfl rfl rfl rfl rfl rfl) ?_
            refine walk_r rfl rfl rfl (op_neq rfl (ev1 rfl) (ev1 rfl)) ?_
            refine walk_nil ?_
            refine dwp_if_f rfl (by simp) ?_
            refine dwp_skip ?_
            refine dwp_region ?_
            refine walk_r rfl rfl rfl (op_add' rfl (ev1 rfl) (ev1 rfl) (fun _ => IntWalk.i64_in _ (by omega))) ?_
            refine walk_r rfl rfl rfl (op_move (.inl rfl) (ev1 rfl)) ?_
            refine walk_nil ?_
            refine ⟨i + 1, [0, 1], ⟨by omega, by omega⟩, by simp only []; omega, rfl, ⟨rfl, rfl, rfl, rfl, trivial⟩, ⟨rfl, rfl, trivial⟩⟩
        · try simp only [decide_eq_true_eq, decide_eq_false_iff_not, beq_iff_eq, bne_iff_ne, beq_eq_false_iff_ne, bne_eq_false_iff_eq, Bool.not_eq_true', Bool.not_eq_false', Bool.and_eq_true, Bool.or_eq_true, Bool.or_eq_false_iff, ne_eq, Decidable.not_not, Int.not_lt, Int.not_le] at c7
          refine dwp_exit ?_
          refine dwp_seq ?_
          refine dwp_holes 1 (by simp only [holes, List.cons_append, List.nil_append]; exact rfl) ?_
          refine dwp_region ?_
          refine walk_r rfl rfl rfl (dop_call [] [] [] rfl (ev1 rfl) en rfl rfl (table_f) rfl rfl rfl rfl rfl rfl) ?_
          refine walk_w rfl rfl rfl (op_alloc 2 rfl zr32 rfl) (by simp only [upd, List.set_cons_zero, List.set_cons_succ]; exact rfl) ?_
          refine walk_s rfl rfl (op_stwa rfl tb32 (ev1 rfl) (ev1 rfl) rfl rfl rfl rfl) (by simp only [upd, List.set_cons_zero, List.set_cons_succ]; exact rfl) ?_
          refine walk_nil ?_
          refine dwp_seq ?_
          refine dwp_seq ?_
          refine dwp_region ?_
          refine walk_r rfl rfl rfl (op_move (.inl rfl) (ev1 rfl)) ?_
          refine walk_nil ?_
          refine dwp_block ?_
          refine dwp_loopS ⟨hs0, rfl⟩ (α := Nat) (fun q => [(75, .val (.int .i64 (q : Int)))]) [(13, _)] (fun q => []) [_, _, _] (fun q => q ≤ 256) (fun q => 256 - q) 0 [0, 1, 2] (by simp) rfl ⟨rfl, trivial⟩ ⟨rfl, trivial⟩ ⟨rfl, rfl, rfl, trivial⟩ ?_
          intro q hx
          simp only [upd, List.set_cons_zero, List.set_cons_succ, List.cons_append, List.nil_append]
          have hq := hx
          refine dwp_seq ?_
          refine dwp_region ?_
          refine walk_r rfl rfl rfl (op_lss rfl (ev1 rfl) (ev1 rfl)) ?_
          refine walk_nil ?_
          refine dwp_seq ?_
          refine dwp_cond rfl (fun c12 => ?_) (fun c12 => ?_)
          · try simp only [decide_eq_true_eq, decide_eq_false_iff_not, beq_iff_eq, bne_iff_ne, beq_eq_false_iff_ne, bne_eq_false_iff_eq, Bool.not_eq_true', Bool.not_eq_false', Bool.and_eq_true, Bool.or_eq_true, Bool.or_eq_false_iff, ne_eq, Decidable.not_not, Int.not_lt, Int.not_le] at c12
            refine dwp_skip ?_
            refine dwp_seq ?_
            refine dwp_block ?_
            refine dwp_seq ?_
            refine dwp_region ?_
            refine walk_r rfl rfl rfl (op_move (.inl rfl) (ev1 rfl)) ?_
            refine walk_r rfl rfl rfl (op_move (.inr rfl) (ev1 rfl)) ?_
            refine walk_nil ?_
            refine dwp_seq ?_
            refine dwp_draw [([], []), ([], []), ([2], []), ([], []), ([], []), ([], []), ([], []), ([], [])] mixed (by kernel_rfl) ?_
            refine lex_r rfl rfl (op_move (.inl rfl) (ev1 rfl)) ?_
            refine lex_r rfl rfl (op_ixfr (j := q) rfl ar32 (ev1 rfl) (ev1 rfl) (fun _ => by omega) (fun _ => by omega)) ?_
            refine lex_r rfl rfl (op_ldf1 (0) rfl tb27 (ev1 rfl) rfl (fun _ => rfl) (by decide) (fun _ => by rw [tabW_len]; omega) rfl) ?_
            refine lex_r rfl rfl (op_move (.inl rfl) (ev1 rfl)) ?_
            refine lex_r rfl rfl (op_conv' ty3 kn5 rfl (ev1 rfl) (fun _ => u8_id (by omega))) ?_
            refine lex_r rfl rfl (op_bs (ps := [(0, .tmp 82)]) rfl sl25 zr5 rfl (vc (ev1 rfl) vn) rfl (by decide) (by decide)) ?_
            refine lex_r rfl rfl (dop_call [] [] [] rfl (ev1 rfl) (ec (ev1 rfl) (ec (ev1 rfl) en)) rfl rfl (fed_r 0 [q] (by decide) (by intro x hx; simp at hx; omega) (by simp)) rfl rfl rfl rfl rfl rfl) ?_
            refine lex_r rfl rfl (op_neq rfl (ev1 rfl) (ev1 rfl)) ?_
            refine lex_nil ?_
            refine dwp_if_f rfl (by rw [fed_tab (by omega)]; simp) ?_
            refine dwp_skip ?_
            refine dwp_region ?_
            refine walk_r rfl rfl rfl (op_add' rfl (ev1 rfl) (ev1 rfl) (fun _ => IntWalk.i64_in _ (by omega))) ?_
            refine walk_r rfl rfl rfl (op_move (.inl rfl) (ev1 rfl)) ?_
            refine walk_nil ?_
            refine ⟨q + 1, [0, 1, 2], by omega, by simp only []; omega, rfl, ⟨rfl, rfl, trivial⟩, ⟨rfl, rfl, rfl, trivial⟩⟩
          · try simp only [decide_eq_true_eq, decide_eq_false_iff_not, beq_iff_eq, bne_iff_ne, beq_eq_false_iff_ne, bne_eq_false_iff_eq, Bool.not_eq_true', Bool.not_eq_false', Bool.and_eq_true, Bool.or_eq_true, Bool.or_eq_false_iff, ne_eq, Decidable.not_not, Int.not_lt, Int.not_le] at c12
            refine dwp_exit ?_
            refine dwp_seq ?_
            refine dwp_region ?_
            refine walk_r rfl rfl rfl (op_move (.inr rfl) (ev1 rfl)) ?_
            refine walk_nil ?_
            refine dwp_ret ?_
            refine kend0 (rs1 rfl (rv_t rfl)) rfl ?_
            rfl
    · try simp only [decide_eq_true_eq, decide_eq_false_iff_not, beq_iff_eq, bne_iff_ne, beq_eq_false_iff_ne, bne_eq_false_iff_eq, Bool.not_eq_true', Bool.not_eq_false', Bool.and_eq_true, Bool.or_eq_true, Bool.or_eq_false_iff, ne_eq, Decidable.not_not, Int.not_lt, Int.not_le] at c3
      refine dwp_skip ?_
      have hfw := few_len ps[k]
      refine dwp_holes 2 (by simp only [holes, List.cons_append, List.nil_append]; exact rfl) ?_
      refine dwp_region ?_
      refine walk_r rfl rfl rfl (op_move (.inl rfl) (ev1 rfl)) ?_
      refine walk_r rfl rfl rfl (op_move (.inl rfl) (ev1 rfl)) ?_
      refine walk_r rfl rfl rfl (dop_call [] [] [] rfl (ev1 rfl) (ec (ev1 rfl) en) rfl rfl (few_d ps[k]) rfl rfl rfl rfl rfl rfl) ?_
      refine walk_r rfl rfl rfl (op_bsm (ps := [(0, .tmp 28)]) rfl sl22 zr25 rfl (ec (ev1 rfl) en) rfl (by decide)) ?_
      refine walk_w rfl rfl rfl (op_appx (j := 2) rfl sl22 zr25 rfl (ev1 rfl) (ev1 rfl) rfl rfl rfl (fun _ => ⟨by omega, by omega⟩)) (by simp only [upd, List.set_cons_zero, List.set_cons_succ]; exact rfl) ?_
      refine walk_r rfl rfl rfl (op_move (.inl rfl) (ev1 rfl)) ?_
      refine walk_r rfl rfl rfl (op_move (.inl rfl) (ev1 rfl)) ?_
      refine walk_r rfl rfl rfl (dop_call [] [] [] rfl (ev1 rfl) (ec (ev1 rfl) en) rfl rfl (few_d ps[k]) rfl rfl rfl rfl rfl rfl) ?_
      refine walk_w rfl rfl rfl (op_app (j := 3) rfl sl25 zr5 rfl (ev1 rfl) (ev1 rfl) src_slf rfl rfl (fun _ => flat_oc (fun _ => rfl) _) (fun _ => ⟨by omega, by omega⟩)) (by simp only [upd, List.set_cons_zero, List.set_cons_succ]; exact rfl) ?_
      refine walk_r rfl rfl rfl (op_move (.inr rfl) (ev1 rfl)) ?_
      refine walk_r rfl rfl rfl (op_move (.inr rfl) (ev1 rfl)) ?_
      refine walk_nil ?_
      refine dwp_region ?_
      refine walk_r rfl rfl rfl (op_add' rfl (ev1 rfl) (ev1 rfl) (fun _ => IntWalk.i64_in _ (by omega))) ?_
      refine walk_r rfl rfl rfl (op_move (.inl rfl) (ev1 rfl)) ?_
      refine walk_nil ?_
      refine ⟨k + 1, [3, 2], ⟨by omega, by omega⟩, by simp only []; omega, rfl, ⟨rfl, rfl, rfl, rfl, rfl, rfl, rfl, trivial⟩, ⟨by rw [fsN_succ (by omega), List.flatten_append, List.flatMap_append, List.length_append, flat_1]; rfl, arx_fits (by rw [fsN_succ (by omega), List.length_append]; rfl) (by rw [fsN_succ (by omega), List.flatMap_append]; rfl) (vwL_flat (fun _ => rfl) _), trivial⟩⟩
  · try simp only [decide_eq_true_eq, decide_eq_false_iff_not, beq_iff_eq, bne_iff_ne, beq_eq_false_iff_ne, bne_eq_false_iff_eq, Bool.not_eq_true', Bool.not_eq_false', Bool.and_eq_true, Bool.or_eq_true, Bool.or_eq_false_iff, ne_eq, Decidable.not_not, Int.not_lt, Int.not_le] at c2
    refine dwp_exit ?_
    refine dwp_seq ?_
    refine dwp_seq ?_
    refine dwp_give 6 (nlL_flat1 (fun _ => rfl) _) rfl rfl (by simp only [List.set_cons_zero, List.set_cons_succ]; exact rfl) ?_
    refine dwp_region ?_
    refine walk_r rfl rfl rfl (op_move (.inl rfl) (ev1 rfl)) ?_
    refine walk_r rfl rfl rfl (dop_call [] [] [] rfl (ev1 rfl) (ec (ev1 rfl) en) rfl rfl (sum_c (fsN ps k) hfi (by omega) (fun p hp => by have := fsN_le k p hp; omega)) rfl rfl rfl rfl rfl rfl) ?_
    refine walk_r rfl rfl rfl (op_move (.inl rfl) (ev1 rfl)) ?_
    refine walk_r rfl rfl rfl (dop_call [] [0] [] rfl (ev1 rfl) (ec (ev1 rfl) en) rfl rfl (sum_r (fsN ps k).flatten hfn (by omega)) rfl rfl rfl rfl rfl rfl) ?_
    refine walk_r rfl rfl rfl (op_neq rfl (ev1 rfl) (ev1 rfl)) ?_
    refine walk_nil ?_
    refine dwp_if_f rfl (by simp) ?_
    refine dwp_skip ?_
    refine dwp_seq ?_
    refine dwp_seq ?_
    refine dwp_region ?_
    refine walk_r rfl rfl rfl (op_move (.inl rfl) (ev1 rfl)) ?_
    refine walk_r rfl rfl rfl (op_lenm rfl sl22 (ev1 rfl)) ?_
    refine walk_r rfl rfl rfl (op_move (.inl rfl) (ev1 rfl)) ?_
    refine walk_nil ?_
    refine dwp_block ?_
    refine dwp_loopS ⟨hs0, rfl⟩ (α := Nat) (fun j => [(43, .val (.int .i64 (j : Int)))]) [(0, _), (1, _), (5, _), (41, _), (42, _)] (fun j => []) [_, _] (fun j => j ≤ (fsN ps k).length) (fun j => (fsN ps k).length - j) 0 [0, 1] (by simp) rfl ⟨rfl, rfl, rfl, rfl, rfl, trivial⟩ ⟨rfl, trivial⟩ ⟨rfl, rfl, trivial⟩ ?_
    intro j hx
    simp only [upd, List.set_cons_zero, List.set_cons_succ, List.cons_append, List.nil_append]
    have hj := hx
    refine dwp_seq ?_
    refine dwp_region ?_
    refine walk_r rfl rfl rfl (op_lss rfl (ev1 rfl) (ev1 rfl)) ?_
    refine walk_nil ?_
    refine dwp_seq ?_
    refine dwp_cond rfl (fun c15 => ?_) (fun c15 => ?_)
    · try simp only [decide_eq_true_eq, decide_eq_false_iff_not, beq_iff_eq, bne_iff_ne, beq_eq_false_iff_ne, bne_eq_false_iff_eq, Bool.not_eq_true', Bool.not_eq_false', Bool.and_eq_true, Bool.or_eq_true, Bool.or_eq_false_iff, ne_eq, Decidable.not_not, Int.not_lt, Int.not_le] at c15
      refine dwp_skip ?_
      refine dwp_seq ?_
      refine dwp_block ?_
      refine dwp_seq ?_
      refine dwp_region ?_
      refine walk_r rfl rfl rfl (op_move (.inl rfl) (ev1 rfl)) ?_
      refine walk_r rfl rfl rfl (op_ixm (j) rfl sl22 (ev1 rfl) (ev1 rfl) (fun _ => rfl) (flat1_at (by omega))) ?_
      refine walk_r rfl rfl rfl (op_lddm rfl tb25 (ev1 rfl) rfl) ?_
      refine walk_r rfl rfl rfl (op_move (.inr rfl) (ev1 rfl)) ?_
      refine walk_r rfl rfl rfl (op_move (.inr rfl) (ev1 rfl)) ?_
      refine walk_nil ?_
      refine dwp_seq ?_
      refine dwp_region ?_
      refine walk_r rfl rfl rfl (op_move (.inl rfl) (ev1 rfl)) ?_
      refine walk_r rfl rfl rfl (op_move (.inl rfl) (ev1 rfl)) ?_
      refine walk_r rfl rfl rfl (op_move (.inl rfl) (ev1 rfl)) ?_
      refine walk_r rfl rfl rfl (op_ixm (j) rfl sl22 (ev1 rfl) (ev1 rfl) (fun _ => rfl) (flat1_at (by omega))) ?_
      refine walk_r rfl rfl rfl (op_lddm rfl tb25 (ev1 rfl) rfl) ?_
      refine walk_r rfl rfl rfl (dop_call [] [] [] rfl (ev1 rfl) (ec (ev1 rfl) en) rfl rfl (few_d ps[j]) rfl rfl rfl rfl rfl rfl) ?_
      refine walk_r rfl rfl rfl (dop_call [] [] [] rfl (ev1 rfl) (ec (ev1 rfl) (ec (ev1 rfl) en)) rfl rfl (equalN _ _) rfl rfl rfl rfl rfl rfl) ?_
      refine walk_r rfl rfl rfl (op_not rfl (ev1 rfl)) ?_
      refine walk_nil ?_
      refine dwp_if_f rfl (by rw [fsN_at (by omega) (by omega)]; simp) ?_
      refine dwp_skip ?_
      refine dwp_region ?_
      refine walk_r rfl rfl rfl (op_add' rfl (ev1 rfl) (ev1 rfl) (fun _ => IntWalk.i64_in _ (by omega))) ?_
      refine walk_r rfl rfl rfl (op_move (.inl rfl) (ev1 rfl)) ?_
      refine walk_nil ?_
      refine ⟨j + 1, [0, 1], by omega, by simp only []; omega, rfl, ⟨rfl, rfl, rfl, rfl, rfl, rfl, trivial⟩, ⟨rfl, rfl, trivial⟩⟩
    · try simp only [decide_eq_true_eq, decide_eq_false_iff_not, beq_iff_eq, bne_iff_ne, beq_eq_false_iff_ne, bne_eq_false_iff_eq, Bool.not_eq_true', Bool.not_eq_false', Bool.and_eq_true, Bool.or_eq_true, Bool.or_eq_false_iff, ne_eq, Decidable.not_not, Int.not_lt, Int.not_le] at c15
      refine dwp_exit ?_
      refine dwp_seq ?_
      refine dwp_seq ?_
      refine dwp_region ?_
      refine walk_r rfl rfl rfl (op_move (.inl rfl) (ev1 rfl)) ?_
      refine walk_r rfl rfl rfl (op_len rfl sl23 (ev1 rfl)) ?_
      refine walk_r rfl rfl rfl (op_move (.inl rfl) (ev1 rfl)) ?_
      refine walk_nil ?_
      refine dwp_block ?_
      refine dwp_loopS ⟨hs0, rfl⟩ (α := Nat) (fun i => [(59, .val (.int .i64 (i : Int)))]) [(5, _), (57, _), (58, _)] (fun i => []) [_, _] (fun i => i ≤ ws.length ∧ i ≤ 6) (fun i => ws.length - i) 0 [0, 1] (⟨by omega, by omega⟩) rfl ⟨rfl, rfl, rfl, trivial⟩ ⟨rfl, trivial⟩ ⟨rfl, rfl, trivial⟩ ?_
      intro i hx
      simp only [upd, List.set_cons_zero, List.set_cons_succ, List.cons_append, List.nil_append]
      obtain ⟨hi, hi6⟩ := hx
      refine dwp_seq ?_
      refine dwp_region ?_
      refine walk_r rfl rfl rfl (op_lss rfl (ev1 rfl) (ev1 rfl)) ?_
      refine walk_nil ?_
      refine dwp_seq ?_
      refine dwp_cond rfl (fun c17 => ?_) (fun c17 => ?_)
      · try simp only [decide_eq_true_eq, decide_eq_false_iff_not, beq_iff_eq, bne_iff_ne, beq_eq_false_iff_ne, bne_eq_false_iff_eq, Bool.not_eq_true', Bool.not_eq_false', Bool.and_eq_true, Bool.or_eq_true, Bool.or_eq_false_iff, ne_eq, Decidable.not_not, Int.not_lt, Int.not_le] at c17
        refine dwp_skip ?_
        refine dwp_seq ?_
        refine dwp_block ?_
        refine dwp_seq ?_
        refine dwp_region ?_
        refine walk_r rfl rfl rfl (op_move (.inl rfl) (ev1 rfl)) ?_
        refine walk_r rfl rfl rfl (op_ixsr (j := i) rfl sl23 (ev1 rfl) (ev1 rfl) (fun _ => rfl) (by decide) (by omega) (by omega)) ?_
        refine walk_r rfl rfl rfl (op_ldod rfl tb27 (ev1 rfl) rfl) ?_
        refine walk_r rfl rfl rfl (op_move (.inr rfl) (ev1 rfl)) ?_
        refine walk_r rfl rfl rfl (op_move (.inr rfl) (ev1 rfl)) ?_
        refine walk_nil ?_
        refine dwp_seq ?_
        refine dwp_seq ?_
        refine dwp_region ?_
        refine walk_r rfl rfl rfl (op_move (.inl rfl) (ev1 rfl)) ?_
        refine walk_r rfl rfl rfl (op_eql rfl (ev1 rfl) (ev1 rfl)) ?_
        refine walk_nil ?_
        refine dwp_cond rfl (fun c18 => ?_) (fun c18 => ?_)
        · try simp only [decide_eq_true_eq, decide_eq_false_iff_not, beq_iff_eq, bne_iff_ne, beq_eq_false_iff_ne, bne_eq_false_iff_eq, Bool.not_eq_true', Bool.not_eq_false', Bool.and_eq_true, Bool.or_eq_true, Bool.or_eq_false_iff, ne_eq, Decidable.not_not, Int.not_lt, Int.not_le] at c18
          refine dwp_exit ?_
          refine dwp_seq ?_
          refine dwp_holes 1 (by simp only [holes, List.cons_append, List.nil_append]; exact rfl) ?_
          refine dwp_region ?_
          refine walk_r rfl rfl rfl (dop_call [] [] [] rfl (ev1 rfl) en rfl rfl (table_f) rfl rfl rfl rfl rfl rfl) ?_
          refine walk_w rfl rfl rfl (op_alloc 2 rfl zr32 rfl) (by simp only [upd, List.set_cons_zero, List.set_cons_succ]; exact rfl) ?_
          refine walk_s rfl rfl (op_stwa rfl tb32 (ev1 rfl) (ev1 rfl) rfl rfl rfl rfl) (by simp only [upd, List.set_cons_zero, List.set_cons_succ]; exact rfl) ?_
          refine walk_nil ?_
          refine dwp_seq ?_
          refine dwp_seq ?_
          refine dwp_region ?_
          refine walk_r rfl rfl rfl (op_move (.inl rfl) (ev1 rfl)) ?_
          refine walk_nil ?_
          refine dwp_block ?_
          refine dwp_loopS ⟨hs0, rfl⟩ (α := Nat) (fun q => [(75, .val (.int .i64 (q : Int)))]) [(13, _)] (fun q => []) [_, _, _] (fun q => q ≤ 256) (fun q => 256 - q) 0 [0, 1, 2] (by simp) rfl ⟨rfl, trivial⟩ ⟨rfl, trivial⟩ ⟨rfl, rfl, rfl, trivial⟩ ?_
          intro q hx
          simp only [upd, List.set_cons_zero, List.set_cons_succ, List.cons_append, List.nil_append]
          have hq := hx
          refine dwp_seq ?_
          refine dwp_region ?_
          refine walk_r rfl rfl rfl (op_lss rfl (ev1 rfl) (ev1 rfl)) ?_
          refine walk_nil ?_
          refine dwp_seq ?_
          refine dwp_cond rfl (fun c19 => ?_) (fun c19 => ?_)
          · try simp only [decide_eq_true_eq, decide_eq_false_iff_not, beq_iff_eq, bne_iff_ne, beq_eq_false_iff_ne, bne_eq_false_iff_eq, Bool.not_eq_true', Bool.not_eq_false', Bool.and_eq_true, Bool.or_eq_true, Bool.or_eq_false_iff, ne_eq, Decidable.not_not, Int.not_lt, Int.not_le] at c19
            refine dwp_skip ?_
            refine dwp_seq ?_
            refine dwp_block ?_
            refine dwp_seq ?_
            refine dwp_region ?_
            refine walk_r rfl rfl rfl (op_move (.inl rfl) (ev1 rfl)) ?_
            refine walk_r rfl rfl rfl (op_move (.inr rfl) (ev1 rfl)) ?_
            refine walk_nil ?_
            refine dwp_seq ?_
            refine dwp_draw [([], []), ([], []), ([2], []), ([], []), ([], []), ([], []), ([], []), ([], [])] mixed (by kernel_rfl) ?_
            refine lex_r rfl rfl (op_move (.inl rfl) (ev1 rfl)) ?_
            refine lex_r rfl rfl (op_ixfr (j := q) rfl ar32 (ev1 rfl) (ev1 rfl) (fun _ => by omega) (fun _ => by omega)) ?_
            refine lex_r rfl rfl (op_ldf1 (0) rfl tb27 (ev1 rfl) rfl (fun _ => rfl) (by decide) (fun _ => by rw [tabW_len]; omega) rfl) ?_
            refine lex_r rfl rfl (op_move (.inl rfl) (ev1 rfl)) ?_
            refine lex_r rfl rfl (op_conv' ty3 kn5 rfl (ev1 rfl) (fun _ => u8_id (by omega))) ?_
            refine lex_r rfl rfl (op_bs (ps := [(0, .tmp 82)]) rfl sl25 zr5 rfl (vc (ev1 rfl) vn) rfl (by decide) (by decide)) ?_
            refine lex_r rfl rfl (dop_call [] [] [] rfl (ev1 rfl) (ec (ev1 rfl) (ec (ev1 rfl) en)) rfl rfl (fed_r 0 [q] (by decide) (by intro x hx; simp at hx; omega) (by simp)) rfl rfl rfl rfl rfl rfl) ?_
            refine lex_r rfl rfl (op_neq rfl (ev1 rfl) (ev1 rfl)) ?_
            refine lex_nil ?_
            refine dwp_if_f rfl (by rw [fed_tab (by omega)]; simp) ?_
            refine dwp_skip ?_
            refine dwp_region ?_
            refine walk_r rfl rfl rfl (op_add' rfl (ev1 rfl) (ev1 rfl) (fun _ => IntWalk.i64_in _ (by omega))) ?_
            refine walk_r rfl rfl rfl (op_move (.inl rfl) (ev1 rfl)) ?_
            refine walk_nil ?_
            refine ⟨q + 1, [0, 1, 2], by omega, by simp only []; omega, rfl, ⟨rfl, rfl, trivial⟩, ⟨rfl, rfl, rfl, trivial⟩⟩
          · try simp only [decide_eq_true_eq, decide_eq_false_iff_not, beq_iff_eq, bne_iff_ne, beq_eq_false_iff_ne, bne_eq_false_iff_eq, Bool.not_eq_true', Bool.not_eq_false', Bool.and_eq_true, Bool.or_eq_true, Bool.or_eq_false_iff, ne_eq, Decidable.not_not, Int.not_lt, Int.not_le] at c19
            refine dwp_exit ?_
            refine dwp_seq ?_
            refine dwp_region ?_
            refine walk_r rfl rfl rfl (op_move (.inr rfl) (ev1 rfl)) ?_
            refine walk_nil ?_
            refine dwp_ret ?_
            refine kend0 (rs1 rfl (rv_t rfl)) rfl ?_
            rfl
        · try simp only [decide_eq_true_eq, decide_eq_false_iff_not, beq_iff_eq, bne_iff_ne, beq_eq_false_iff_ne, bne_eq_false_iff_eq, Bool.not_eq_true', Bool.not_eq_false', Bool.and_eq_true, Bool.or_eq_true, Bool.or_eq_false_iff, ne_eq, Decidable.not_not, Int.not_lt, Int.not_le] at c18
          refine dwp_skip ?_
          refine dwp_seq ?_
          have hwi := hws ws[i] (List.getElem_mem ..)
          refine dwp_region ?_
          refine walk_r rfl rfl rfl (op_move (.inl rfl) (ev1 rfl)) ?_
          refine walk_r rfl rfl rfl (op_move (.inl rfl) (ev1 rfl)) ?_
          refine walk_r rfl rfl rfl (dop_call [] [0] [] rfl (ev1 rfl) (ec (ev1 rfl) (ec (ev1 rfl) en)) rfl rfl (more_c ws[i] hwi (fsN ps k).flatten hfn (by omega)) rfl rfl rfl rfl rfl rfl) ?_
          refine walk_r rfl rfl rfl (op_move (.inl rfl) (ev1 rfl)) ?_
          refine walk_r rfl rfl rfl (op_move (.inl rfl) (ev1 rfl)) ?_
          refine walk_r rfl rfl rfl (dop_call [] [0] [] rfl (ev1 rfl) (ec (ev1 rfl) (ec (ev1 rfl) en)) rfl rfl (more_r ws[i] (fsN ps k).flatten hwi hfn (by omega)) rfl rfl rfl rfl rfl rfl) ?_
          refine walk_r rfl rfl rfl (op_neq rfl (ev1 rfl) (ev1 rfl)) ?_
          refine walk_nil ?_
          refine dwp_if_f rfl (by simp) ?_
          refine dwp_skip ?_
          refine dwp_region ?_
          refine walk_r rfl rfl rfl (op_add' rfl (ev1 rfl) (ev1 rfl) (fun _ => IntWalk.i64_in _ (by omega))) ?_
          refine walk_r rfl rfl rfl (op_move (.inl rfl) (ev1 rfl)) ?_
          refine walk_nil ?_
          refine ⟨i + 1, [0, 1], ⟨by omega, by omega⟩, by simp only []; omega, rfl, ⟨rfl, rfl, rfl, rfl, trivial⟩, ⟨rfl, rfl, trivial⟩⟩
      · try simp only [decide_eq_true_eq, decide_eq_false_iff_not, beq_iff_eq, bne_iff_ne, beq_eq_false_iff_ne, bne_eq_false_iff_eq, Bool.not_eq_true', Bool.not_eq_false', Bool.and_eq_true, Bool.or_eq_true, Bool.or_eq_false_iff, ne_eq, Decidable.not_not, Int.not_lt, Int.not_le] at c17
        refine dwp_exit ?_
        refine dwp_seq ?_
        refine dwp_holes 1 (by simp only [holes, List.cons_append, List.nil_append]; exact rfl) ?_
        refine dwp_region ?_
        refine walk_r rfl rfl rfl (dop_call [] [] [] rfl (ev1 rfl) en rfl rfl (table_f) rfl rfl rfl rfl rfl rfl) ?_
        refine walk_w rfl rfl rfl (op_alloc 2 rfl zr32 rfl) (by simp only [upd, List.set_cons_zero, List.set_cons_succ]; exact rfl) ?_
        refine walk_s rfl rfl (op_stwa rfl tb32 (ev1 rfl) (ev1 rfl) rfl rfl rfl rfl) (by simp only [upd, List.set_cons_zero, List.set_cons_succ]; exact rfl) ?_
        refine walk_nil ?_
        refine dwp_seq ?_
        refine dwp_seq ?_
        refine dwp_region ?_
        refine walk_r rfl rfl rfl (op_move (.inl rfl) (ev1 rfl)) ?_
        refine walk_nil ?_
        refine dwp_block ?_
        refine dwp_loopS ⟨hs0, rfl⟩ (α := Nat) (fun q => [(75, .val (.int .i64 (q : Int)))]) [(13, _)] (fun q => []) [_, _, _] (fun q => q ≤ 256) (fun q => 256 - q) 0 [0, 1, 2] (by simp) rfl ⟨rfl, trivial⟩ ⟨rfl, trivial⟩ ⟨rfl, rfl, rfl, trivial⟩ ?_
        intro q hx
        simp only [upd, List.set_cons_zero, List.set_cons_succ, List.cons_append, List.nil_append]
        have hq := hx
        refine dwp_seq ?_
        refine dwp_region ?_
        refine walk_r rfl rfl rfl (op_lss rfl (ev1 rfl) (ev1 rfl)) ?_
        refine walk_nil ?_
        refine dwp_seq ?_
        refine dwp_cond rfl (fun c22 => ?_) (fun c22 => ?_)
        · try simp only [decide_eq_true_eq, decide_eq_false_iff_not, beq_iff_eq, bne_iff_ne, beq_eq_false_iff_ne, bne_eq_false_iff_eq, Bool.not_eq_true', Bool.not_eq_false', Bool.and_eq_true, Bool.or_eq_true, Bool.or_eq_false_iff, ne_eq, Decidable.not_not, Int.not_lt, Int.not_le] at c22
          refine dwp_skip ?_
          refine dwp_seq ?_
          refine dwp_block ?_
          refine dwp_seq ?_
          refine dwp_region ?_
          refine walk_r rfl rfl rfl (op_move (.inl rfl) (ev1 rfl)) ?_
          refine walk_r rfl rfl rfl (op_move (.inr rfl) (ev1 rfl)) ?_
          refine walk_nil ?_
          refine dwp_seq ?_
          refine dwp_draw [([], []), ([], []), ([2], []), ([], []), ([], []), ([], []), ([], []), ([], [])] mixed (by kernel_rfl) ?_
          refine lex_r rfl rfl (op_move (.inl rfl) (ev1 rfl)) ?_
          refine lex_r rfl rfl (op_ixfr (j := q) rfl ar32 (ev1 rfl) (ev1 rfl) (fun _ => by omega) (fun _ => by omega)) ?_
          refine lex_r rfl rfl (op_ldf1 (0) rfl tb27 (ev1 rfl) rfl (fun _ => rfl) (by decide) (fun _ => by rw [tabW_len]; omega) rfl) ?_
          refine lex_r rfl rfl (op_move (.inl rfl) (ev1 rfl)) ?_
          refine lex_r rfl rfl (op_conv' ty3 kn5 rfl (ev1 rfl) (fun _ => u8_id (by omega))) ?_
          refine lex_r rfl rfl (op_bs (ps := [(0, .tmp 82)]) rfl sl25 zr5 rfl (vc (ev1 rfl) vn) rfl (by decide) (by decide)) ?_
          refine lex_r rfl rfl (dop_call [] [] [] rfl (ev1 rfl) (ec (ev1 rfl) (ec (ev1 rfl) en)) rfl rfl (fed_r 0 [q] (by decide) (by intro x hx; simp at hx; omega) (by simp)) rfl rfl rfl rfl rfl rfl) ?_
          refine lex_r rfl rfl (op_neq rfl (ev1 rfl) (ev1 rfl)) ?_
          refine lex_nil ?_
          refine dwp_if_f rfl (by rw [fed_tab (by omega)]; simp) ?_
          refine dwp_skip ?_
          refine dwp_region ?_
          refine walk_r rfl rfl rfl (op_add' rfl (ev1 rfl) (ev1 rfl) (fun _ => IntWalk.i64_in _ (by omega))) ?_
          refine walk_r rfl rfl rfl (op_move (.inl rfl) (ev1 rfl)) ?_
          refine walk_nil ?_
          refine ⟨q + 1, [0, 1, 2], by omega, by simp only []; omega, rfl, ⟨rfl, rfl, trivial⟩, ⟨rfl, rfl, rfl, trivial⟩⟩
        · try simp only [decide_eq_true_eq, decide_eq_false_iff_not, beq_iff_eq, bne_iff_ne, beq_eq_false_iff_ne, bne_eq_false_iff_eq, Bool.not_eq_true', Bool.not_eq_false', Bool.and_eq_true, Bool.or_eq_true, Bool.or_eq_false_iff, ne_eq, Decidable.not_not, Int.not_lt, Int.not_le] at c22
          refine dwp_exit ?_
          refine dwp_seq ?_
          refine dwp_region ?_
          refine walk_r rfl rfl rfl (op_move (.inr rfl) (ev1 rfl)) ?_
          refine walk_nil ?_
          refine dwp_ret ?_
          refine kend0 (rs1 rfl (rv_t rfl)) rfl ?_
          rfl

end Go.Proofs.Ytnpfbeoibbejeaa
