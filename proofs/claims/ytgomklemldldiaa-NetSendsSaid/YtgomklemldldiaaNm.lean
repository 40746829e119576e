/- nets in memory of their own -/
import Derived.Test.YtgomklemldldiaaNx
import Derived.Laws.BytesArg
import Derived.Laws.Strings
namespace Go.Proofs.Ytgomklemldldiaa
set_option linter.unusedVariables false
set_option linter.unusedSimpArgs false
open Go.RowKit

abbrev pF (i : Nat) (q : Par × Nat) : List D := [.val (.int .i64 q.1.to), .farr i q.2, .val (.bool q.1.sp)]
def rowM (p : Par) : Mem := .arr 5 1 p.b.length (p.b.flatMap un8)
def famP (P : List Par) : List Mem := P.map rowM
theorem famP_len (P : List Par) : (famP P).length = P.length := by simp [famP]
theorem famP_snoc (P : List Par) (p : Par) : famP P ++ [rowM p] = famP (P ++ [p]) := by simp [famP]
theorem famP_succ {P : List Par} {k : Nat} (h : k < P.length) : famP (P.take k) ++ [rowM P[k]] = famP (P.take (k + 1)) := by
  rw [List.take_succ_eq_append_getElem h, famP_snoc]
theorem famP_at {P : List Par} {k : Nat} (h : k < P.length) : (famP P)[k]? = some (.arr 5 1 P[k].b.length (P[k].b.flatMap un8)) := by simp [famP, h, rowM]
theorem fx_snoc (i : Nat) (P : List Par) (p : Par) {k : Nat} (hk : P.length = k) : P.zipIdx.flatMap (pF i) ++ [.val (.int .i64 p.to), .farr i k, .val (.bool p.sp)] = (P ++ [p]).zipIdx.flatMap (pF i) := by
  subst hk
  rw [List.zipIdx_append, List.flatMap_append]
  simp
theorem fx_fits {σ : List Nat} {V : Nat → Bool} {M : List Blk} {T : TypeId} {i j n n' : Nat} {l : List D} {Q : List (Par × Nat)} (hn : n = n') (hl : l = Q.flatMap (pF i)) (hp : pos σ i = some j) : (vwL σ V M l).map (Blk.arx T 3 n) = some (Blk.arx T 3 n' (Q.flatMap (pF j))) := by
  subst hl
  exact arxs_fits hn rfl fun a => by simp [vwL, vw, hp]
theorem copied_F (p : Par) (h : p.b.length ≤ 2000000) (Bs : List Mem) {k : Nat} (hk : Bs.length = k) : DFun Try.prog 61 [.agg (pD p)] [.fam Bs] (.agg [.val (.int .i64 p.to), .farr 0 k, .val (.bool p.sp)]) [.fam (Bs ++ [rowM p])] := by
  subst hk
  exact DFun.abs (B := rowM p) (Bs := Bs) (Min := []) (Mout := []) (g := fun i k => .agg [.val (.int .i64 p.to), .farr i k, .val (.bool p.sp)]) (d' := .agg [.val (.int .i64 p.to), .arr 1, .val (.bool p.sp)]) 0 (copied_o p h) rfl rfl rfl rfl rfl rfl rfl rfl rfl (fun s v hr _ hs h1 h2 => by
    cases hr with
    | @agg _ vs hl h =>
      refine .agg hl fun j d v hj hv => ?_
      match j, hj with
      | 0, hj => exact h 0 d v hj hv
      | 1, hj =>
        cases hj
        have h3 := h 1 _ v rfl hv
        cases h3 with
        | arr hb => exact .farr h1 (h2 _ hb)
      | 2, hj => exact h 2 d v hj hv
      | j + 3, hj => simp at hj) rfl rfl rfl rfl rfl

set_option maxRecDepth 4000 in
set_option maxHeartbeats 1000000 in
theorem chof_F (P : List Par) (L : Int) (h : netB P L = true) : DFun Try.prog 43 [.agg [.slm 3 (P).length ((P).flatMap pD), .val (.int .u64 L)]] [.fam []] (.loc 1 0) [.fam (famP (P)), .mix 76 [.arr 2, .val (.int .u64 L)], .arx 38 3 (P).length ((P).zipIdx.flatMap (pF 0))] := by
  refine dcalls_go (N := 33) 1 (by kernel_rfl) Try.func43 rfl rfl rfl (by simp only [fr0, Nat.zero_add, Nat.reduceAdd]; exact rfl) rfl fun s0 hs0 => ?_
  refine dwp_seq ?_
  obtain ⟨hle, hL⟩ := net_le h
  refine dwp_holes 1 (by simp only [holes, List.cons_append, List.nil_append]; exact rfl) ?_
  refine dwp_region ?_
  refine walk_w rfl rfl rfl (op_boxam 1 rfl (ev1 rfl) rfl) (by simp only [upd, List.set_cons_zero, List.set_cons_succ]; exact rfl) ?_
  refine walk_r rfl rfl rfl (op_move (.inr rfl) (ev1 rfl)) ?_
  refine walk_nil ?_
  refine dwp_seq ?_
  refine dwp_region ?_
  refine walk_r rfl rfl rfl (op_ldmw rfl tb25 (ev1 rfl) rfl rfl) ?_
  refine walk_r rfl rfl rfl (dop_call [] [] [] rfl (ev1 rfl) (ec (ev1 rfl) en) rfl rfl (check_ok P L h) rfl rfl rfl rfl rfl rfl) ?_
  refine walk_r rfl rfl rfl (op_eql rfl (ev1 rfl) (ev1 rfl)) ?_
  refine walk_r rfl rfl rfl (dop_call [] [] [] rfl (ev1 rfl) (ec (ev1 rfl) (ec (ev1 rfl) en)) rfl rfl (need_ok _ _ (rfl)) rfl rfl rfl rfl rfl rfl) ?_
  refine walk_nil ?_
  refine dwp_seq ?_
  refine dwp_holes 1 (by simp only [holes, List.cons_append, List.nil_append]; exact rfl) ?_
  refine dwp_region ?_
  refine walk_r rfl rfl rfl (op_fa rfl fo25_0 (ev1 rfl)) ?_
  refine walk_r rfl rfl rfl (op_ldm rfl tb22 (ev1 rfl) rfl rfl) ?_
  refine walk_r rfl rfl rfl (op_lenm rfl sl22 (ev1 rfl)) ?_
  refine walk_r rfl rfl rfl (op_add' rfl (ev1 rfl) (ev1 rfl) (fun _ => IntWalk.i64_in _ (by omega))) ?_
  refine walk_w rfl rfl rfl (op_mk0 2 (P.length + 1) rfl sl22 zr38 (ev1 rfl) (ev1 rfl) (fun _ => rfl) (fun _ => rfl) rfl (fun _ => by omega)) (by simp only [upd, List.set_cons_zero, List.set_cons_succ]; exact rfl) ?_
  refine walk_r rfl rfl rfl (op_move (.inr rfl) (ev1 rfl)) ?_
  refine walk_nil ?_
  refine dwp_seq ?_
  refine dwp_seq ?_
  refine dwp_region ?_
  refine walk_r rfl rfl rfl (op_fa rfl fo25_0 (ev1 rfl)) ?_
  refine walk_r rfl rfl rfl (op_ldm rfl tb22 (ev1 rfl) rfl rfl) ?_
  refine walk_r rfl rfl rfl (op_lenm rfl sl22 (ev1 rfl)) ?_
  refine walk_r rfl rfl rfl (op_move (.inl rfl) (ev1 rfl)) ?_
  refine walk_nil ?_
  refine dwp_block ?_
  refine dwp_reb 2 reb_arx rfl rfl (by simp only [List.cons_append, List.nil_append, List.set_cons_zero, List.set_cons_succ, List.map]; exact rfl) ?_
  refine dwp_loopS ⟨hs0, rfl⟩ (α := Nat) (fun k => [(18, .val (.int .i64 (k : Int)))]) [(1, _), (3, _), (16, _), (17, _)] (fun k => [(0, .fam (famP (P.take k))), (2, .arx 38 3 ((P.take k)).length (((P.take k)).zipIdx.flatMap (pF 0)))]) [.hole, _, .hole] (fun k => k ≤ P.length) (fun k => P.length - k) 0 [0, 1, 2] (by simp) rfl ⟨rfl, rfl, rfl, rfl, trivial⟩ ⟨rfl, trivial⟩ ⟨rfl, rfl, rfl, trivial⟩ ?_
  intro k hx
  simp only [upd, List.set_cons_zero, List.set_cons_succ, List.cons_append, List.nil_append]
  have hk := hx
  have hql : (P.take k).length = k := by rw [List.length_take]; omega
  refine dwp_seq ?_
  refine dwp_region ?_
  refine walk_r rfl rfl rfl (op_lss rfl (ev1 rfl) (ev1 rfl)) ?_
  refine walk_nil ?_
  refine dwp_seq ?_
  refine dwp_cond rfl (fun c1 => ?_) (fun c1 => ?_)
  · try simp only [decide_eq_true_eq, decide_eq_false_iff_not, beq_iff_eq, bne_iff_ne, beq_eq_false_iff_ne, bne_eq_false_iff_eq, Bool.not_eq_true', Bool.not_eq_false', Bool.and_eq_true, Bool.or_eq_true, Bool.or_eq_false_iff, ne_eq, Decidable.not_not, Int.not_lt, Int.not_le] at c1
    refine dwp_skip ?_
    refine dwp_seq ?_
    refine dwp_block ?_
    refine dwp_seq ?_
    have hk6 : k < P.length := by omega
    refine dwp_holes 1 (by simp only [holes, List.cons_append, List.nil_append]; exact rfl) ?_
    refine dwp_region ?_
    refine walk_r rfl rfl rfl (op_ixmr (k) (by decide) rfl sl22 (ev1 rfl) (ev1 rfl) (fun _ => rfl) (by omega) (fun _ => rfl)) ?_
    refine walk_r rfl rfl rfl (op_lddr rfl tb38 (ev1 rfl) rfl rfl) ?_
    refine walk_w rfl rfl rfl (op_alloc 3 rfl zr38 rfl) (by simp only [upd, List.set_cons_zero, List.set_cons_succ]; exact rfl) ?_
    refine walk_s rfl rfl (op_stam rfl tb38 (ev1 rfl) (ev1 rfl) rfl rfl rfl rfl) (by simp only [upd, List.set_cons_zero, List.set_cons_succ]; exact rfl) ?_
    refine walk_nil ?_
    have hbl := net_len h hk6
    refine dwp_holes 2 (by simp only [holes, List.cons_append, List.nil_append]; exact rfl) ?_
    refine dwp_region ?_
    refine walk_r rfl rfl rfl (op_move (.inl rfl) (ev1 rfl)) ?_
    refine walk_r rfl rfl rfl (op_ldmw rfl tb38 (ev1 rfl) rfl rfl) ?_
    refine walk_w rfl rfl rfl (dop_call [0] [] [] rfl (ev1 rfl) (ec (ev1 rfl) en) rfl rfl (copied_F P[k] (by omega) _ (k := k) (by simp only [famP_len, List.length_take]; try omega)) rfl rfl rfl rfl rfl rfl) (by simp only [upd, List.set_cons_zero, List.set_cons_succ]; exact rfl) ?_
    refine walk_w rfl rfl rfl (op_bsxs (ps := [(0, .tmp 24)]) 4 rfl sl22 zr38 rfl (ec (ev1 rfl) en) rfl rfl rfl rfl (by decide) (by decide) rfl) (by simp only [upd, List.set_cons_zero, List.set_cons_succ]; exact rfl) ?_
    refine walk_w rfl rfl rfl (op_apprr (j := 5) rfl sl22 zr38 rfl (ev1 rfl) (ev1 rfl) rfl rfl rfl (rfl) (fun _ => ⟨by omega, by omega⟩)) (by simp only [upd, List.set_cons_zero, List.set_cons_succ]; exact rfl) ?_
    refine walk_r rfl rfl rfl (op_move (.inr rfl) (ev1 rfl)) ?_
    refine walk_nil ?_
    refine dwp_region ?_
    refine walk_r rfl rfl rfl (op_add' rfl (ev1 rfl) (ev1 rfl) (fun _ => IntWalk.i64_in _ (by omega))) ?_
    refine walk_r rfl rfl rfl (op_move (.inl rfl) (ev1 rfl)) ?_
    refine walk_nil ?_
    refine ⟨k + 1, [0, 1, 5], by omega, by simp only []; omega, rfl, ⟨rfl, rfl, rfl, rfl, rfl, trivial⟩, ⟨congrArg (fun b => some (Blk.fam b)) (famP_succ (by omega)), rfl, fx_fits (by rw [List.length_take, List.length_take]; omega) ((fx_snoc 0 (P.take k) P[k] hql).trans (by rw [← List.take_succ_eq_append_getElem (by omega)])) rfl, trivial⟩⟩
  · try simp only [decide_eq_true_eq, decide_eq_false_iff_not, beq_iff_eq, bne_iff_ne, beq_eq_false_iff_ne, bne_eq_false_iff_eq, Bool.not_eq_true', Bool.not_eq_false', Bool.and_eq_true, Bool.or_eq_true, Bool.or_eq_false_iff, ne_eq, Decidable.not_not, Int.not_lt, Int.not_le] at c1
    refine dwp_exit ?_
    refine dwp_seq ?_
    obtain rfl : k = P.length := by omega
    rw [List.take_length]
    refine dwp_region ?_
    refine walk_r rfl rfl rfl (op_move (.inl rfl) (ev1 rfl)) ?_
    refine walk_r rfl rfl rfl (op_fa rfl fo25_0 (ev1 rfl)) ?_
    refine walk_s rfl rfl (op_stm rfl tb22 (ev1 rfl) (ev1 rfl) (fun s v h => by cases h <;> exact ⟨rfl, rfl⟩) rfl (by first | decide | exact Nat.le_of_ble_eq_true rfl | simp)) (by simp only [upd, List.set_cons_zero, List.set_cons_succ]; exact rfl) ?_
    refine walk_nil ?_
    refine dwp_seq ?_
    refine dwp_holes 1 (by simp only [holes, List.cons_append, List.nil_append]; exact rfl) ?_
    refine dwp_region ?_
    refine walk_r rfl rfl rfl (op_ldmw rfl tb25 (ev1 rfl) rfl rfl) ?_
    refine walk_r rfl rfl rfl (op_bldA rfl (ev1 rfl) fl76 zr76 rfl) ?_
    refine walk_w rfl rfl rfl (op_boxam 3 rfl (ev1 rfl) rfl) (by simp only [upd, List.set_cons_zero, List.set_cons_succ]; exact rfl) ?_
    refine walk_r rfl rfl rfl (op_move (.inr rfl) (ev1 rfl)) ?_
    refine walk_nil ?_
    refine dwp_ret ?_
    refine kend [0, 3, 2] (rs1 rfl (rv_t rfl)) rfl rfl ?_ ⟨?_, ?_, ?_, trivial⟩
    rfl
    all_goals first | exact rfl | exact fx_fits rfl rfl rfl

set_option maxRecDepth 4000 in
set_option maxHeartbeats 1000000 in
theorem chof_noF (P : List Par) (L : Int) (h : netB P L = false) (Bs : List Mem) : DPan Try.prog 43 [.agg [.slm 3 (P).length ((P).flatMap pD), .val (.int .u64 L)]] [.fam Bs] (.ifc 97 (.val (.agg #[.int .i64 350]))) [.fam Bs] := by
  refine dcalls_go (N := 33) 1 (by kernel_rfl) Try.func43 rfl rfl rfl (by simp only [fr0, Nat.zero_add, Nat.reduceAdd]; exact rfl) rfl fun s0 hs0 => ?_
  refine dwp_seq ?_
  refine dwp_holes 1 (by simp only [holes, List.cons_append, List.nil_append]; exact rfl) ?_
  refine dwp_region ?_
  refine walk_w rfl rfl rfl (op_boxam 1 rfl (ev1 rfl) rfl) (by simp only [upd, List.set_cons_zero, List.set_cons_succ]; exact rfl) ?_
  refine walk_r rfl rfl rfl (op_move (.inr rfl) (ev1 rfl)) ?_
  refine walk_nil ?_
  refine dwp_seq ?_
  refine dwp_region ?_
  refine walk_r rfl rfl rfl (op_ldmw rfl tb25 (ev1 rfl) rfl rfl) ?_
  refine walk_r rfl rfl rfl (dop_call [] [] [] rfl (ev1 rfl) (ec (ev1 rfl) en) rfl rfl (check_no P L h) rfl rfl rfl rfl rfl rfl) ?_
  refine walk_r rfl rfl rfl (op_eql rfl (ev1 rfl) (ev1 rfl)) ?_
  refine walk_p rfl (dop_callP [] [] [] rfl (ev1 rfl) (ec (ev1 rfl) (ec (ev1 rfl) en)) rfl rfl (need_no _ _ (rfl)) rfl rfl rfl rfl rfl rfl) rfl ?_
  refine kpan [0] rfl rfl ?_ ⟨rfl, trivial⟩
  rfl

set_option maxRecDepth 4000 in
set_option maxHeartbeats 1000000 in
theorem send_F (P : List Par) (L : Nat) (p : Par) (h : P.length < 64) (hb : p.b.length ≤ 2000000) : DFun Try.prog 46 [.loc 1 0, .agg (pD p)] [.fam (famP (P)), .mix 76 [.arr 2, .val (.int .u64 ((L : Nat) : Int))], .arx 38 3 (P).length ((P).zipIdx.flatMap (pF 0))] (.tup []) [.fam (famP (P ++ [p])), .mix 76 [.arr 3, .val (.int .u64 ((L : Nat) : Int))], .gone, .arx 38 3 ((P ++ [p])).length (((P ++ [p])).zipIdx.flatMap (pF 0))] := by
  refine dcalls_go (N := 35) 3 (by kernel_rfl) Try.func46 rfl rfl rfl (by simp only [fr0, Nat.zero_add, Nat.reduceAdd]; exact rfl) rfl fun s0 hs0 => ?_
  refine dwp_seq ?_
  refine dwp_holes 1 (by simp only [holes, List.cons_append, List.nil_append]; exact rfl) ?_
  refine dwp_region ?_
  refine walk_w rfl rfl rfl (op_boxam 3 rfl (ev1 rfl) rfl) (by simp only [upd, List.set_cons_zero, List.set_cons_succ]; exact rfl) ?_
  refine walk_nil ?_
  refine dwp_seq ?_
  refine dwp_seq ?_
  refine dwp_region ?_
  refine walk_r rfl rfl rfl (op_move (.inl rfl) (ev1 rfl)) ?_
  refine walk_r rfl rfl rfl (op_nc rfl (ev1 rfl) (fun s v h => by cases h; exact ⟨_, rfl⟩)) ?_
  refine walk_r rfl rfl rfl (op_fa rfl fo76_0 (ev1 rfl)) ?_
  refine walk_r rfl rfl rfl (op_fa rfl fo25_0 (ev1 rfl)) ?_
  refine walk_r rfl rfl rfl (op_ldm rfl tb22 (ev1 rfl) rfl rfl) ?_
  refine walk_r rfl rfl rfl (op_lenx rfl sl22 (ev1 rfl) rfl) ?_
  refine walk_r rfl rfl rfl (op_lss rfl (ev1 rfl) (ev1 rfl)) ?_
  refine walk_nil ?_
  refine dwp_if_t rfl (by simp; omega) ?_
  refine dwp_seq ?_
  refine dwp_holes 2 (by simp only [holes, List.cons_append, List.nil_append]; exact rfl) ?_
  refine dwp_draw [([], []), ([], []), ([], []), ([], []), ([], []), ([1], []), ([3], []), ([0], [0]), ([4], [4]), ([2, 5, 4], [2, 5]), ([], []), ([], []), ([], []), ([1], [1])] mixed (by kernel_rfl) ?_
  refine lex_r rfl rfl (op_move (.inl rfl) (ev1 rfl)) ?_
  refine lex_r rfl rfl (op_move (.inl rfl) (ev1 rfl)) ?_
  refine lex_r rfl rfl (op_nc rfl (ev1 rfl) (fun s v h => by cases h; exact ⟨_, rfl⟩)) ?_
  refine lex_r rfl rfl (op_fa rfl fo76_0 (ev1 rfl)) ?_
  refine lex_r rfl rfl (op_fa rfl fo25_0 (ev1 rfl)) ?_
  refine lex_r rfl rfl (op_ldm rfl tb22 (ev1 rfl) rfl rfl) ?_
  refine lex_r rfl rfl (op_ldmw rfl tb38 (ev1 rfl) rfl rfl) ?_
  refine lex_w rfl rfl (dop_call [0] [] [] rfl (ev1 rfl) (ec (ev1 rfl) en) rfl rfl (copied_F p (hb) _ (k := P.length) (by simp only [famP_len, List.length_take]; try omega)) rfl rfl rfl rfl rfl rfl) rfl (by simp only [upd, List.set_cons_zero, List.set_cons_succ]; exact rfl) ?_
  refine lex_w rfl rfl (op_bsxs (ps := [(0, .tmp 18)]) 4 rfl sl22 zr38 rfl (ec (ev1 rfl) en) rfl rfl rfl rfl (by decide) (by decide) rfl) rfl (by simp only [upd, List.set_cons_zero, List.set_cons_succ]; exact rfl) ?_
  refine lex_w rfl rfl (op_apprr (j := 5) rfl sl22 zr38 rfl (ev1 rfl) (ev1 rfl) rfl rfl rfl (rfl) (fun _ => ⟨by omega, by omega⟩)) rfl (by simp only [upd, List.set_cons_zero, List.set_cons_succ]; exact rfl) ?_
  refine lex_r rfl rfl (op_nc rfl (ev1 rfl) (fun s v h => by cases h; exact ⟨_, rfl⟩)) ?_
  refine lex_r rfl rfl (op_fa rfl fo76_0 (ev1 rfl)) ?_
  refine lex_r rfl rfl (op_fa rfl fo25_0 (ev1 rfl)) ?_
  refine lex_s rfl rfl (op_stm rfl tb22 (ev1 rfl) (ev1 rfl) (fun s v h => by cases h <;> exact ⟨rfl, rfl⟩) rfl (by first | decide | exact Nat.le_of_ble_eq_true rfl | simp)) rfl (by simp only [upd, List.set_cons_zero, List.set_cons_succ]; exact rfl) ?_
  refine lex_nil ?_
  refine dwp_ret ?_
  refine kend [0, 1, 2, 5] (res_none rfl) rfl rfl ?_ ⟨?_, ?_, ?_, ?_, trivial⟩
  rfl
  all_goals first | exact rfl | exact congrArg (fun b => some (Blk.fam b)) (famP_snoc _ _) | exact fx_fits (by simp) (fx_snoc 0 P p rfl) rfl

set_option maxRecDepth 4000 in
set_option maxHeartbeats 1000000 in
theorem send_fullF (P : List Par) (L : Nat) (p : Par) (h : 64 ≤ P.length) (hL : L ≤ 4611686018427387904) : DFun Try.prog 46 [.loc 1 0, .agg (pD p)] [.fam (famP (P)), .mix 76 [.arr 2, .val (.int .u64 ((L : Nat) : Int))], .arx 38 3 (P).length ((P).zipIdx.flatMap (pF 0))] (.tup []) [.fam (famP (P)), .mix 76 [.arr 2, .val (.int .u64 ((min (L + 1) 4611686018427387904 : Nat) : Int))], .arx 38 3 (P).length ((P).zipIdx.flatMap (pF 0))] := by
  refine dcalls_go (N := 35) 3 (by kernel_rfl) Try.func46 rfl rfl rfl (by simp only [fr0, Nat.zero_add, Nat.reduceAdd]; exact rfl) rfl fun s0 hs0 => ?_
  refine dwp_seq ?_
  refine dwp_holes 1 (by simp only [holes, List.cons_append, List.nil_append]; exact rfl) ?_
  refine dwp_region ?_
  refine walk_w rfl rfl rfl (op_boxam 3 rfl (ev1 rfl) rfl) (by simp only [upd, List.set_cons_zero, List.set_cons_succ]; exact rfl) ?_
  refine walk_nil ?_
  refine dwp_seq ?_
  refine dwp_seq ?_
  refine dwp_region ?_
  refine walk_r rfl rfl rfl (op_move (.inl rfl) (ev1 rfl)) ?_
  refine walk_r rfl rfl rfl (op_nc rfl (ev1 rfl) (fun s v h => by cases h; exact ⟨_, rfl⟩)) ?_
  refine walk_r rfl rfl rfl (op_fa rfl fo76_0 (ev1 rfl)) ?_
  refine walk_r rfl rfl rfl (op_fa rfl fo25_0 (ev1 rfl)) ?_
  refine walk_r rfl rfl rfl (op_ldm rfl tb22 (ev1 rfl) rfl rfl) ?_
  refine walk_r rfl rfl rfl (op_lenx rfl sl22 (ev1 rfl) rfl) ?_
  refine walk_r rfl rfl rfl (op_lss rfl (ev1 rfl) (ev1 rfl)) ?_
  refine walk_nil ?_
  refine dwp_if_f rfl (by simp; omega) ?_
  refine dwp_skip ?_
  refine dwp_region ?_
  refine walk_r rfl rfl rfl (op_move (.inl rfl) (ev1 rfl)) ?_
  refine walk_r rfl rfl rfl (op_move (.inl rfl) (ev1 rfl)) ?_
  refine walk_r rfl rfl rfl (op_nc rfl (ev1 rfl) (fun s v h => by cases h; exact ⟨_, rfl⟩)) ?_
  refine walk_r rfl rfl rfl (op_fa rfl fo76_0 (ev1 rfl)) ?_
  refine walk_r rfl rfl rfl (op_fa rfl fo25_1 (ev1 rfl)) ?_
  refine walk_r rfl rfl rfl (op_ldm rfl tb23 (ev1 rfl) rfl rfl) ?_
  refine walk_r rfl rfl rfl (op_add' rfl (ev1 rfl) (ev1 rfl) (fun _ => IntWalk.u64_in _ (by omega))) ?_
  refine walk_r rfl rfl rfl ((op_min rfl (ev1 rfl) (ev1 rfl)).cast (d' := .val (.int .u64 ((min (L + 1) 4611686018427387904 : Nat) : Int))) (by rw [show min ((L : Int) + 1) 4611686018427387904 = ((min (L + 1) 4611686018427387904 : Nat) : Int) by omega])) ?_
  refine walk_r rfl rfl rfl (op_nc rfl (ev1 rfl) (fun s v h => by cases h; exact ⟨_, rfl⟩)) ?_
  refine walk_r rfl rfl rfl (op_fa rfl fo76_0 (ev1 rfl)) ?_
  refine walk_r rfl rfl rfl (op_fa rfl fo25_1 (ev1 rfl)) ?_
  refine walk_s rfl rfl (op_stm rfl tb23 (ev1 rfl) (ev1 rfl) (fun s v h => by cases h <;> exact ⟨rfl, rfl⟩) rfl (by first | decide | exact Nat.le_of_ble_eq_true rfl | simp)) (by simp only [upd, List.set_cons_zero, List.set_cons_succ]; exact rfl) ?_
  refine walk_nil ?_
  refine kend [0, 1, 2] (res_none rfl) rfl rfl ?_ ⟨?_, ?_, ?_, trivial⟩
  rfl
  all_goals first | exact rfl | exact fx_fits rfl rfl rfl

def sndM (P : List Par) (L k : Nat) : Nat := min (L + (P.length + k - 64)) 4611686018427387904
theorem sndM_0 {P : List Par} {L : Nat} (hL : L ≤ 4611686018427387904) (h : P.length ≤ 64) : sndM P L 0 = L := by unfold sndM; omega
theorem sndM_le (P : List Par) (L k : Nat) : sndM P L k ≤ 4611686018427387904 := by unfold sndM; omega
theorem sndM_room {P l : List Par} {L k : Nat} (hk : k < l.length) (h : (sndP P l k).length < 64) : sndM P L (k + 1) = sndM P L k := by
  rw [sndP_len (by omega)] at h
  unfold sndM; omega
theorem sndM_full {P l : List Par} {L k : Nat} (hk : k < l.length) (h : 64 ≤ (sndP P l k).length) : sndM P L (k + 1) = min (sndM P L k + 1) 4611686018427387904 := by
  rw [sndP_len (by omega)] at h
  unfold sndM; omega

set_option maxRecDepth 4000 in
set_option maxHeartbeats 1000000 in
theorem Send_F (P l : List Par) (L : Nat) (hN : netB P (L : Int) = true) (hl : l.length ≤ 1000) (ha : (l.all fun p => (mayB p && !p.sp)) = true) : DFun Try.prog 16 [.agg [.slm 3 (P).length ((P).flatMap pD), .val (.int .u64 (L : Int))], .slm 3 (l).length ((l).flatMap pD)] [.fam []] (.tup [.agg [.arr 1, .val (.int .u64 ((sndM P L l.length : Nat) : Int))], .val (.int .i64 0)]) [.fam (famP (sndP P l l.length)), .arx 38 3 ((sndP P l l.length)).length (((sndP P l l.length)).zipIdx.flatMap (pF 0))] := by
  refine dcalls_body (N := 29) 1 (by kernel_rfl) Try.func16 rfl rfl rfl (by simp only [fr0, Nat.zero_add, Nat.reduceAdd]; exact rfl) rfl fun s0 hs0 => ?_
  refine dbody_seq rfl hs0 ?_
  refine dwp_holes 3 (by simp only [holes, List.cons_append, List.nil_append]; exact rfl) ?_
  refine dwp_region ?_
  refine walk_w rfl rfl rfl (op_boxam 1 rfl (ev1 rfl) rfl) (by simp only [upd, List.set_cons_zero, List.set_cons_succ]; exact rfl) ?_
  refine walk_w rfl rfl rfl (op_alloc 2 rfl zr25 rfl) (by simp only [upd, List.set_cons_zero, List.set_cons_succ]; exact rfl) ?_
  refine walk_w rfl rfl rfl (op_alloc 3 rfl zr30 rfl) (by simp only [upd, List.set_cons_zero, List.set_cons_succ]; exact rfl) ?_
  refine walk_nil ?_
  refine dbody_defer (l0 := [_]) rfl rfl rfl rfl rfl hs0 ?_
  refine walk_r rfl rfl rfl (op_mkf rfl en (ec (ev1 rfl) en)) ?_
  refine walk_nil ⟨_, _, _, 4, ev1 rfl, Nat.le_trans hs0 (by decide), rfl, ?_⟩
  have hs1 : s0.M.length ≤ 4 := Nat.le_trans hs0 (by decide)
  refine dbody_end rfl hs0 ?_
  refine dwp_seq ?_
  refine dwp_holes 2 (by simp only [holes, List.cons_append, List.nil_append]; exact rfl) ?_
  refine dwp_region ?_
  refine walk_r rfl rfl rfl (op_ldmw rfl tb25 (ev1 rfl) rfl rfl) ?_
  refine walk_w rfl rfl rfl (dop_call [0] [] [4, 5] rfl (ev1 rfl) (ec (ev1 rfl) en) rfl rfl (chof_F P _ hN) rfl rfl rfl (by exact (wrc rfl (wrc rfl (wrc (by first | exact rfl | exact sb_arx (fun _ => rfl) | exact sb_arxr (nlL_flatR (fun _ => rfl) _) | exact sb_arxg (fun _ => rfl) | exact sb_arxs (fun _ => rfl)) rfl)))) rfl rfl) (by simp only [upd, List.set_cons_zero, List.set_cons_succ]; exact rfl) ?_
  refine walk_r rfl rfl rfl (op_move (.inr rfl) (ev1 rfl)) ?_
  refine walk_nil ?_
  refine dwp_seq ?_
  refine dwp_region ?_
  refine walk_r rfl rfl rfl (op_move (.inl rfl) (ev1 rfl)) ?_
  refine walk_r rfl rfl rfl (dop_call [] [] [] rfl (ev1 rfl) (ec (ev1 rfl) (ec (ev1 rfl) en)) rfl rfl (all_s l) rfl rfl rfl rfl rfl rfl) ?_
  refine walk_r rfl rfl rfl (dop_call [] [] [] rfl (ev1 rfl) (ec (ev1 rfl) (ec (ev1 rfl) en)) rfl rfl (need_ok _ _ (ha)) rfl rfl rfl rfl rfl rfl) ?_
  refine walk_nil ?_
  refine dwp_seq ?_
  refine dwp_seq ?_
  obtain ⟨hle, hLm⟩ := net_le hN
  refine dwp_region ?_
  refine walk_r rfl rfl rfl (op_move (.inl rfl) (ev1 rfl)) ?_
  refine walk_r rfl rfl rfl (op_lenm rfl sl22 (ev1 rfl)) ?_
  refine walk_r rfl rfl rfl (op_move (.inl rfl) (ev1 rfl)) ?_
  refine walk_nil ?_
  refine dwp_block ?_
  refine dwp_loopS ⟨hs1, rfl⟩ (α := Nat) (fun k => [(17, .val (.int .i64 (k : Int)))]) [(4, _), (5, _), (6, _), (15, _), (16, _)] (fun k => [(0, .fam (famP (sndP P l k))), (4, .mix 76 [.arr 5, .val (.int .u64 ((sndM P L k : Nat) : Int))]), (5, .arx 38 3 ((sndP P l k)).length (((sndP P l k)).zipIdx.flatMap (pF 0)))]) [.hole, _, _, _, .hole, .hole] (fun k => k ≤ l.length) (fun k => l.length - k) 0 [0, 1, 2, 3, 4, 5] (by simp) rfl ⟨rfl, rfl, rfl, rfl, rfl, trivial⟩ ⟨rfl, trivial⟩ ⟨by rw [sndP_0 l hle]; rfl, rfl, rfl, rfl, by rw [sndM_0 (by omega) hle]; rfl, fx_fits (by rw [sndP_0 l hle]) (by rw [sndP_0 l hle]) rfl, trivial⟩ ?_
  intro k hx
  simp only [upd, List.set_cons_zero, List.set_cons_succ, List.cons_append, List.nil_append]
  have hk := hx
  refine dwp_seq ?_
  refine dwp_region ?_
  refine walk_r rfl rfl rfl (op_lss rfl (ev1 rfl) (ev1 rfl)) ?_
  refine walk_nil ?_
  refine dwp_seq ?_
  refine dwp_cond rfl (fun c1 => ?_) (fun c1 => ?_)
  · try simp only [decide_eq_true_eq, decide_eq_false_iff_not, beq_iff_eq, bne_iff_ne, beq_eq_false_iff_ne, bne_eq_false_iff_eq, Bool.not_eq_true', Bool.not_eq_false', Bool.and_eq_true, Bool.or_eq_true, Bool.or_eq_false_iff, ne_eq, Decidable.not_not, Int.not_lt, Int.not_le] at c1
    refine dwp_skip ?_
    refine dwp_seq ?_
    refine dwp_block ?_
    refine dwp_seq ?_
    refine dwp_holes 1 (by simp only [holes, List.cons_append, List.nil_append]; exact rfl) ?_
    refine dwp_region ?_
    refine walk_r rfl rfl rfl (op_ixmr (k) (by decide) rfl sl22 (ev1 rfl) (ev1 rfl) (fun _ => rfl) (by omega) (fun _ => rfl)) ?_
    refine walk_r rfl rfl rfl (op_lddr rfl tb38 (ev1 rfl) rfl rfl) ?_
    refine walk_w rfl rfl rfl (op_alloc 6 rfl zr38 rfl) (by simp only [upd, List.set_cons_zero, List.set_cons_succ]; exact rfl) ?_
    refine walk_s rfl rfl (op_stam rfl tb38 (ev1 rfl) (ev1 rfl) rfl rfl rfl rfl) (by simp only [upd, List.set_cons_zero, List.set_cons_succ]; exact rfl) ?_
    refine walk_nil ?_
    by_cases hr : (sndP P l k).length < 64
    · have hkl : k < l.length := by omega
      refine dwp_holes 1 (by simp only [holes, List.cons_append, List.nil_append]; exact rfl) ?_
      refine dwp_region ?_
      refine walk_r rfl rfl rfl (op_move (.inl rfl) (ev1 rfl)) ?_
      refine walk_r rfl rfl rfl (op_ldmw rfl tb38 (ev1 rfl) rfl rfl) ?_
      refine walk_w rfl rfl rfl (dop_call [0, 4, 5] [] [7] rfl (ev1 rfl) (ec (ev1 rfl) (ec (ev1 rfl) en)) rfl (by exact mfits _ _ ⟨rfl, rfl, (by first | exact rfl | exact arx_fits rfl rfl (vwL_flat (fun _ => rfl) _) | exact arxr_fits rfl rfl (nlL_flatR (fun _ => rfl) _) | exact arxg_fits rfl rfl (fun _ => rfl) | exact arxs_fits rfl rfl (fun _ => rfl)), trivial⟩) (send_F (sndP P l k) (sndM P L k) l[k] hr (all_at ha hkl)) rfl rfl rfl (by exact (wrc rfl (wrc rfl (wrc rfl (wrc (by first | exact rfl | exact sb_arx (fun _ => rfl) | exact sb_arxr (nlL_flatR (fun _ => rfl) _) | exact sb_arxg (fun _ => rfl) | exact sb_arxs (fun _ => rfl)) rfl))))) rfl rfl) (by simp only [upd, List.set_cons_zero, List.set_cons_succ]; exact rfl) ?_
      refine walk_nil ?_
      refine dwp_region ?_
      refine walk_r rfl rfl rfl (op_add' rfl (ev1 rfl) (ev1 rfl) (fun _ => IntWalk.i64_in _ (by omega))) ?_
      refine walk_r rfl rfl rfl (op_move (.inl rfl) (ev1 rfl)) ?_
      refine walk_nil ?_
      refine ⟨k + 1, [0, 1, 2, 3, 4, 7], by omega, by simp only []; omega, rfl, ⟨rfl, rfl, rfl, rfl, rfl, rfl, trivial⟩, ⟨by rw [sndP_room hkl hr]; rfl, rfl, rfl, rfl, by rw [sndM_room hkl hr]; rfl, fx_fits (by rw [sndP_room hkl hr]) (by rw [sndP_room hkl hr]) rfl, trivial⟩⟩
    · have hkl : k < l.length := by omega
      refine dwp_region ?_
      refine walk_r rfl rfl rfl (op_move (.inl rfl) (ev1 rfl)) ?_
      refine walk_r rfl rfl rfl (op_ldmw rfl tb38 (ev1 rfl) rfl rfl) ?_
      refine walk_w rfl rfl rfl (dop_call [0, 4, 5] [] [] rfl (ev1 rfl) (ec (ev1 rfl) (ec (ev1 rfl) en)) rfl (by exact mfits _ _ ⟨rfl, rfl, (by first | exact rfl | exact arx_fits rfl rfl (vwL_flat (fun _ => rfl) _) | exact arxr_fits rfl rfl (nlL_flatR (fun _ => rfl) _) | exact arxg_fits rfl rfl (fun _ => rfl) | exact arxs_fits rfl rfl (fun _ => rfl)), trivial⟩) (send_fullF (sndP P l k) (sndM P L k) l[k] (by omega) (sndM_le _ _ _)) rfl rfl rfl (by exact (wrc rfl (wrc rfl (wrc (by first | exact rfl | exact sb_arx (fun _ => rfl) | exact sb_arxr (nlL_flatR (fun _ => rfl) _) | exact sb_arxg (fun _ => rfl) | exact sb_arxs (fun _ => rfl)) rfl)))) rfl rfl) (by simp only [upd, List.set_cons_zero, List.set_cons_succ]; exact rfl) ?_
      refine walk_nil ?_
      refine dwp_region ?_
      refine walk_r rfl rfl rfl (op_add' rfl (ev1 rfl) (ev1 rfl) (fun _ => IntWalk.i64_in _ (by omega))) ?_
      refine walk_r rfl rfl rfl (op_move (.inl rfl) (ev1 rfl)) ?_
      refine walk_nil ?_
      refine ⟨k + 1, [0, 1, 2, 3, 4, 5], by omega, by simp only []; omega, rfl, ⟨rfl, rfl, rfl, rfl, rfl, rfl, trivial⟩, ⟨by rw [sndP_full hkl (by omega)]; rfl, rfl, rfl, rfl, by rw [sndM_full hkl (by omega)]; rfl, fx_fits (by rw [sndP_full hkl (by omega)]) (by rw [sndP_full hkl (by omega)]) rfl, trivial⟩⟩
  · try simp only [decide_eq_true_eq, decide_eq_false_iff_not, beq_iff_eq, bne_iff_ne, beq_eq_false_iff_ne, bne_eq_false_iff_eq, Bool.not_eq_true', Bool.not_eq_false', Bool.and_eq_true, Bool.or_eq_true, Bool.or_eq_false_iff, ne_eq, Decidable.not_not, Int.not_lt, Int.not_le] at c1
    refine dwp_exit ?_
    refine dwp_seq ?_
    obtain rfl : k = l.length := by omega
    refine dwp_region ?_
    refine walk_r rfl rfl rfl (op_move (.inl rfl) (ev1 rfl)) ?_
    refine walk_r rfl rfl rfl (op_nc rfl (ev1 rfl) (fun s v h => by cases h; exact ⟨_, rfl⟩)) ?_
    refine walk_r rfl rfl rfl (op_fa rfl fo76_0 (ev1 rfl)) ?_
    refine walk_r rfl rfl rfl (op_ldmw rfl tb25 (ev1 rfl) rfl rfl) ?_
    refine walk_s rfl rfl (op_stam rfl tb25 (ev1 rfl) (ev1 rfl) rfl rfl rfl rfl) (by simp only [upd, List.set_cons_zero, List.set_cons_succ]; exact rfl) ?_
    refine walk_s rfl rfl (op_stwi rfl tb30 (ev1 rfl) (ev1 rfl) rfl) (by simp only [upd, List.set_cons_zero, List.set_cons_succ]; exact rfl) ?_
    refine walk_nil ?_
    refine dwp_ret ?_
    refine kdef (dturn_idle [3] [] rfl rfl (sendf_idle _) rfl rfl rfl rfl rfl) ?_
    refine kend [0, 5] (rs2 rfl (rv_mw tb25 rfl rfl rfl) (rv_1 tb30 rfl rfl rfl)) rfl rfl ?_ ⟨?_, ?_, trivial⟩
    rfl
    all_goals first | exact rfl | exact fx_fits rfl rfl rfl

set_option maxRecDepth 4000 in
set_option maxHeartbeats 1000000 in
theorem Send_argF (P l : List Par) (L : Nat) (hN : netB P (L : Int) = true) (ha : (l.all fun p => (mayB p && !p.sp)) = false) : DFun Try.prog 16 [.agg [.slm 3 (P).length ((P).flatMap pD), .val (.int .u64 (L : Int))], .slm 3 (l).length ((l).flatMap pD)] [.fam []] (.tup [.val (.agg #[.slice none 0 0, .int .u64 0]), .val (.int .i64 2)]) [.fam (famP (P))] := by
  refine dcalls_body (N := 29) 1 (by kernel_rfl) Try.func16 rfl rfl rfl (by simp only [fr0, Nat.zero_add, Nat.reduceAdd]; exact rfl) rfl fun s0 hs0 => ?_
  refine dbody_seq rfl hs0 ?_
  refine dwp_holes 3 (by simp only [holes, List.cons_append, List.nil_append]; exact rfl) ?_
  refine dwp_region ?_
  refine walk_w rfl rfl rfl (op_boxam 1 rfl (ev1 rfl) rfl) (by simp only [upd, List.set_cons_zero, List.set_cons_succ]; exact rfl) ?_
  refine walk_w rfl rfl rfl (op_alloc 2 rfl zr25 rfl) (by simp only [upd, List.set_cons_zero, List.set_cons_succ]; exact rfl) ?_
  refine walk_w rfl rfl rfl (op_alloc 3 rfl zr30 rfl) (by simp only [upd, List.set_cons_zero, List.set_cons_succ]; exact rfl) ?_
  refine walk_nil ?_
  refine dbody_defer (l0 := [_]) rfl rfl rfl rfl rfl hs0 ?_
  refine walk_r rfl rfl rfl (op_mkf rfl en (ec (ev1 rfl) en)) ?_
  refine walk_nil ⟨_, _, _, 4, ev1 rfl, Nat.le_trans hs0 (by decide), rfl, ?_⟩
  have hs1 : s0.M.length ≤ 4 := Nat.le_trans hs0 (by decide)
  refine dbody_end rfl hs0 ?_
  refine dwp_seq ?_
  refine dwp_holes 2 (by simp only [holes, List.cons_append, List.nil_append]; exact rfl) ?_
  refine dwp_region ?_
  refine walk_r rfl rfl rfl (op_ldmw rfl tb25 (ev1 rfl) rfl rfl) ?_
  refine walk_w rfl rfl rfl (dop_call [0] [] [4, 5] rfl (ev1 rfl) (ec (ev1 rfl) en) rfl rfl (chof_F P _ hN) rfl rfl rfl (by exact (wrc rfl (wrc rfl (wrc (by first | exact rfl | exact sb_arx (fun _ => rfl) | exact sb_arxr (nlL_flatR (fun _ => rfl) _) | exact sb_arxg (fun _ => rfl) | exact sb_arxs (fun _ => rfl)) rfl)))) rfl rfl) (by simp only [upd, List.set_cons_zero, List.set_cons_succ]; exact rfl) ?_
  refine walk_r rfl rfl rfl (op_move (.inr rfl) (ev1 rfl)) ?_
  refine walk_nil ?_
  refine dwp_seq ?_
  refine dwp_region ?_
  refine walk_r rfl rfl rfl (op_move (.inl rfl) (ev1 rfl)) ?_
  refine walk_r rfl rfl rfl (dop_call [] [] [] rfl (ev1 rfl) (ec (ev1 rfl) (ec (ev1 rfl) en)) rfl rfl (all_s l) rfl rfl rfl rfl rfl rfl) ?_
  refine walk_p rfl (dop_callP [] [] [] rfl (ev1 rfl) (ec (ev1 rfl) (ec (ev1 rfl) en)) rfl rfl (need_no _ _ (ha)) rfl rfl rfl rfl rfl rfl) rfl ?_
  refine kdef (dturn_caught [3] [] rfl rfl rfl (sendf_caught _ _) rfl rfl rfl rfl rfl) ?_
  refine kend [0] (rs2 rfl (rv_w tb25 rfl rfl rfl) (rv_1 tb30 rfl rfl rfl)) rfl rfl ?_ ⟨rfl, trivial⟩
  rfl

set_option maxRecDepth 4000 in
set_option maxHeartbeats 1000000 in
theorem Send_noF (P l : List Par) (L : Nat) (hN : netB P (L : Int) = false) (Bs : List Mem) : DFun Try.prog 16 [.agg [.slm 3 (P).length ((P).flatMap pD), .val (.int .u64 (L : Int))], .slm 3 (l).length ((l).flatMap pD)] [.fam Bs] (.tup [.val (.agg #[.slice none 0 0, .int .u64 0]), .val (.int .i64 350)]) [.fam Bs] := by
  refine dcalls_body (N := 29) 1 (by kernel_rfl) Try.func16 rfl rfl rfl (by simp only [fr0, Nat.zero_add, Nat.reduceAdd]; exact rfl) rfl fun s0 hs0 => ?_
  refine dbody_seq rfl hs0 ?_
  refine dwp_holes 3 (by simp only [holes, List.cons_append, List.nil_append]; exact rfl) ?_
  refine dwp_region ?_
  refine walk_w rfl rfl rfl (op_boxam 1 rfl (ev1 rfl) rfl) (by simp only [upd, List.set_cons_zero, List.set_cons_succ]; exact rfl) ?_
  refine walk_w rfl rfl rfl (op_alloc 2 rfl zr25 rfl) (by simp only [upd, List.set_cons_zero, List.set_cons_succ]; exact rfl) ?_
  refine walk_w rfl rfl rfl (op_alloc 3 rfl zr30 rfl) (by simp only [upd, List.set_cons_zero, List.set_cons_succ]; exact rfl) ?_
  refine walk_nil ?_
  refine dbody_defer (l0 := [_]) rfl rfl rfl rfl rfl hs0 ?_
  refine walk_r rfl rfl rfl (op_mkf rfl en (ec (ev1 rfl) en)) ?_
  refine walk_nil ⟨_, _, _, 4, ev1 rfl, Nat.le_trans hs0 (by decide), rfl, ?_⟩
  have hs1 : s0.M.length ≤ 4 := Nat.le_trans hs0 (by decide)
  refine dbody_end rfl hs0 ?_
  refine dwp_seq ?_
  refine dwp_region ?_
  refine walk_r rfl rfl rfl (op_ldmw rfl tb25 (ev1 rfl) rfl rfl) ?_
  refine walk_p rfl (dop_callP [0] [] [] rfl (ev1 rfl) (ec (ev1 rfl) en) rfl rfl (chof_noF P _ hN _) rfl rfl rfl rfl rfl rfl) rfl ?_
  refine kdef (dturn_caught [3] [] rfl rfl rfl (sendf_caught _ _) rfl rfl rfl rfl rfl) ?_
  refine kend [0] (rs2 rfl (rv_w tb25 rfl rfl rfl) (rv_1 tb30 rfl rfl rfl)) rfl rfl ?_ ⟨rfl, trivial⟩
  rfl

theorem un8_map (l : List Nat) : l.flatMap un8 = (l.map fun x : Nat => (x : Int)).map (Value.int .u8) := by
  induction l with
  | nil => rfl
  | cons a l ih => rw [List.flatMap_cons, ih]; rfl
def strN (l : List Nat) : ByteArray := strOfNums (l.map fun x : Nat => (x : Int))
theorem op_cbs {P : Program} {pc : Bool} {o : Oper} {F : Fr} {M : List Blk} {T T' e : TypeId} {x : Operand} {n : Nat} {l : List Nat} (ho : o.op = .convert T T' x) (hT : P.underlying T = some (.slice e)) (he : P.underlying e = some (.int .u8)) (hd : P.underlying T' = some .string) (hx : Ev pc F x (.slf 1 n (l.flatMap un8))) : DOp P pc o F M [] (.val (.string (strN l))) [] := by
  intro hp a s hok hops _
  have hr := ev_at hp hx (by simp [ho, Op.operands]) hops
  have hex : (execOp a.eval o).run P s.w = ((convert T T' (a.eval x)).run P s.w).andThen fun v w => .ok (.value v) w := by
    unfold execOp
    simp only [ho, Sem.run_bind]
    rfl
  generalize hv : a.eval x = vx at hr hex
  have hin : ∀ {v : Value}, (convert T T' vx).run P s.w = .ok v s.w → (execOp a.eval o).run P s.w = .ok (.value v) s.w := fun h => by rw [hex, h]; rfl
  cases hr with
  | @slf _ _ cap ad L hl hn hc ha h =>
    have hlen : l.length = n := by
      have := congrArg List.length (un8_map l)
      rw [hl] at this
      simpa using this.symm
    rcases h with h | ⟨b, q, rfl, hI, hcl⟩
    · have hl0 : l = [] := by
        rw [un8_map] at h
        simpa using h
      subst hl0
      have hn0 : n = 0 := by simpa using hlen.symm
      subst hn0
      cases ad with
      | none => exact dg_val hok (hin (run_convert_bytes_nil s.w T e hT he 0 cap T' hd)) (.val _)
      | some ad =>
        refine dg_val hok (hin ?_) (.val _)
        rw [run_convert_bytes_string s.w T T' e _ 0 cap hT he hd]
        exact run_bytesToString s.w ad 0 cap [] (by simp [loadCells, loadCellsFrom])
    · refine dg_val hok (hin (run_convert_bytes_arg s.w T e hT he b q n cap (l.map fun x : Nat => (x : Int)) (by simpa using hlen) (fun i hi => ?_) T' hd)) (.val _)
      refine hcl i _ ?_
      rw [un8_map, List.getElem?_map, List.getElem?_map, List.getElem?_eq_getElem (by omega)]
      simp [List.getD, List.getElem?_eq_getElem (show i < l.length by omega)]
theorem strN_eq {l r : List Nat} (hl : isN l) (hr : isN r) : ((strN l).toList == (strN r).toList) = decide (l = r) := by
  have hd : ∀ {a b : ByteArray}, a.toList = b.toList → a.data.toList = b.data.toList := fun {a b} h => by
    rw [ByteArray.toList_eq, ByteArray.toList_eq] at h
    exact h
  by_cases e : l = r
  · subst e; simp
  · rw [decide_eq_false e]
    refine beq_eq_false_iff_ne.2 fun h => e ?_
    have h1 := hd h
    simp only [strN, strOfNums_data, List.map_map] at h1
    have inj : ∀ {a b : List Nat}, isN a → isN b → a.map ((fun n : Int => UInt8.ofNat n.toNat) ∘ fun x : Nat => (x : Int)) = b.map ((fun n : Int => UInt8.ofNat n.toNat) ∘ fun x : Nat => (x : Int)) → a = b := by
      intro a
      induction a with
      | nil => intro b _ _ h; cases b with | nil => rfl | cons y b => simp at h
      | cons x a ih =>
        intro b ha hb h
        cases b with
        | nil => simp at h
        | cons y b =>
          simp only [List.map_cons, List.cons.injEq] at h
          obtain ⟨h1, h2⟩ := h
          have hx := ha x (List.mem_cons_self ..)
          have hy := hb y (List.mem_cons_self ..)
          have h3 := congrArg UInt8.toNat h1
          simp at h3
          rw [Nat.mod_eq_of_lt hx, Nat.mod_eq_of_lt hy] at h3
          rw [h3, ih (fun z hz => ha z (List.mem_cons_of_mem _ hz)) (fun z hz => hb z (List.mem_cons_of_mem _ hz)) h2]
    exact inj hl hr h1

set_option maxRecDepth 4000 in
set_option maxHeartbeats 1000000 in
theorem beq_d (l r : List Nat) (hl : isN l) (hr : isN r) : DFun Try.prog 39 [.slf 1 (l).length ((l).flatMap un8), .slf 1 (r).length ((r).flatMap un8)] [] (.val (.bool (decide (l = r)))) [] := by
  refine dcalls_go (N := 10) 0 (by kernel_rfl) Try.func39 rfl rfl rfl (by simp only [fr0, Nat.zero_add, Nat.reduceAdd]; exact rfl) rfl fun s0 hs0 => ?_
  refine dwp_len (t := 0) rfl fun hl0 hL0 => ?_
  refine dwp_len (t := 1) rfl fun hl1 hL1 => ?_
  refine dwp_seq ?_
  refine dwp_region ?_
  refine walk_r rfl rfl rfl (op_move (.inr rfl) (ev1 rfl)) ?_
  refine walk_nil ?_
  refine dwp_seq ?_
  refine dwp_region ?_
  refine walk_r rfl rfl rfl (op_move (.inl rfl) (ev1 rfl)) ?_
  refine walk_r rfl rfl rfl (op_cbs rfl Try.underlying36 Try.underlying5 Try.underlying9 (ev1 rfl)) ?_
  refine walk_r rfl rfl rfl (op_move (.inl rfl) (ev1 rfl)) ?_
  refine walk_r rfl rfl rfl (op_cbs rfl Try.underlying36 Try.underlying5 Try.underlying9 (ev1 rfl)) ?_
  refine walk_r rfl rfl rfl (op_eqs rfl (ev1 rfl) (ev1 rfl)) ?_
  refine walk_r rfl rfl rfl (op_move (.inr rfl) (ev1 rfl)) ?_
  refine walk_nil ?_
  refine dwp_ret ?_
  refine kend0 (rs1 rfl (rv_t rfl)) rfl ?_
  exact congrArg (fun b => D.val (.bool b)) (strN_eq hl hr)

def parB (p q : Par) : Bool := ((p.to == q.to) && (p.sp == q.sp)) && decide (p.b = q.b)
theorem parB_eq {p q : Par} : parB p q = true ↔ p = q := by
  obtain ⟨a, b, c⟩ := p
  obtain ⟨a', b', c'⟩ := q
  simp [parB]
  constructor
  · rintro ⟨⟨h1, h2⟩, h3⟩; exact ⟨h1, h3, h2⟩
  · rintro ⟨h1, h2, h3⟩; exact ⟨⟨h1, h3⟩, h2⟩
theorem sameN_no {L M : Int} {l r : List Par} (h : (L != M || (l.length : Int) != (r.length : Int)) = true) [DecidableEq Par] : (L == M && decide (l = r)) = false := by
  by_cases e : l = r
  · subst e; simpa using h
  · simp [e]
instance : DecidableEq Par := fun p q => if h : parB p q = true then .isTrue (parB_eq.1 h) else .isFalse fun e => h (parB_eq.2 e)
theorem parB_dec (p q : Par) : parB p q = decide (p = q) := by
  by_cases h : p = q
  · rw [decide_eq_true h]; exact parB_eq.2 h
  · rw [decide_eq_false h]; exact Bool.eq_false_iff.2 fun e => h (parB_eq.1 e)
def parN (p : Par) : Prop := ∀ x ∈ p.b, x < 256

set_option maxRecDepth 4000 in
set_option maxHeartbeats 1000000 in
theorem nsame1_d (p q : Par) (hp : parN p) (hq : parN q) : DFun Try.prog 38 [.agg (pD p), .agg (pD q)] [] (.val (.bool (decide (p = q)))) [] := by
  refine dcalls_go (N := 24) 0 (by kernel_rfl) Try.func38 rfl rfl rfl (by simp only [fr0, Nat.zero_add, Nat.reduceAdd]; exact rfl) rfl fun s0 hs0 => ?_
  refine dwp_seq ?_
  refine dwp_holes 2 (by simp only [holes, List.cons_append, List.nil_append]; exact rfl) ?_
  refine dwp_region ?_
  refine walk_w rfl rfl rfl (op_boxam 0 rfl (ev1 rfl) rfl) (by simp only [upd, List.set_cons_zero, List.set_cons_succ]; exact rfl) ?_
  refine walk_w rfl rfl rfl (op_boxam 1 rfl (ev1 rfl) rfl) (by simp only [upd, List.set_cons_zero, List.set_cons_succ]; exact rfl) ?_
  refine walk_r rfl rfl rfl (op_move (.inr rfl) (ev1 rfl)) ?_
  refine walk_nil ?_
  refine dwp_seq ?_
  refine dwp_region ?_
  refine walk_r rfl rfl rfl (op_fa rfl fo38_0 (ev1 rfl)) ?_
  refine walk_r rfl rfl rfl (op_ldm rfl tb3 (ev1 rfl) rfl rfl) ?_
  refine walk_r rfl rfl rfl (op_fa rfl fo38_0 (ev1 rfl)) ?_
  refine walk_r rfl rfl rfl (op_ldm rfl tb3 (ev1 rfl) rfl rfl) ?_
  refine walk_r rfl rfl rfl (op_eql rfl (ev1 rfl) (ev1 rfl)) ?_
  refine walk_r rfl rfl rfl (op_move (.inl rfl) (ev1 rfl)) ?_
  refine walk_gr (gd_t rfl rfl rfl) rfl rfl rfl (op_fa rfl fo38_2 (ev1 rfl)) ?_
  refine walk_gr (gd_t rfl rfl rfl) rfl rfl rfl (op_ldm rfl tb4 (ev2 rfl) rfl rfl) ?_
  refine walk_gr (gd_t rfl rfl rfl) rfl rfl rfl (op_fa rfl fo38_2 (ev1 rfl)) ?_
  refine walk_gr (gd_t rfl rfl rfl) rfl rfl rfl (op_ldm rfl tb4 (ev2 rfl) rfl rfl) ?_
  refine walk_gr (gd_t rfl rfl rfl) rfl rfl rfl (op_eqb rfl un4 (ev2 rfl) (ev2 rfl)) ?_
  refine walk_r rfl rfl rfl (op_and rfl (ev1 rfl) (ev3 rfl id)) ?_
  refine walk_r rfl rfl rfl (op_move (.inl rfl) (ev1 rfl)) ?_
  refine walk_gr (gd_t rfl rfl rfl) rfl rfl rfl (op_fa rfl fo38_1 (ev1 rfl)) ?_
  refine walk_gr (gd_t rfl rfl rfl) rfl rfl rfl (op_ldm rfl tb36 (ev2 rfl) rfl rfl) ?_
  refine walk_gr (gd_t rfl rfl rfl) rfl rfl rfl (op_fa rfl fo38_1 (ev1 rfl)) ?_
  refine walk_gr (gd_t rfl rfl rfl) rfl rfl rfl (op_ldm rfl tb36 (ev2 rfl) rfl rfl) ?_
  refine walk_gr (gd_t rfl rfl rfl) rfl rfl rfl (dop_call [] [] [] rfl (ev1 rfl) (ec (ev2 rfl) (ec (ev2 rfl) en)) rfl rfl (beq_d p.b q.b hp hq) rfl rfl rfl rfl rfl rfl) ?_
  refine walk_r rfl rfl rfl (op_and rfl (ev1 rfl) (ev3 rfl id)) ?_
  refine walk_r rfl rfl rfl (op_move (.inr rfl) (ev1 rfl)) ?_
  refine walk_nil ?_
  refine dwp_ret ?_
  refine kend0 (rs1 rfl (rv_t rfl)) rfl ?_
  rw [← parB_dec]; rfl

set_option maxRecDepth 4000 in
set_option maxHeartbeats 1000000 in
theorem eqfP_d (l r : List Par) (hl : ∀ p ∈ l, parN p) (hr : ∀ p ∈ r, parN p) : DFun Try.prog 26 [.slm 3 (l).length ((l).flatMap pD), .slm 3 (r).length ((r).flatMap pD), .fn (.func 38) [] []] [] (.val (.bool (decide (l = r)))) [] := by
  refine dcalls_go (N := 32) 0 (by kernel_rfl) Try.func26 rfl rfl rfl (by simp only [fr0, Nat.zero_add, Nat.reduceAdd]; exact rfl) rfl fun s0 hs0 => ?_
  refine dwp_lenm (t := 0) rfl fun hl0 hL0 => ?_
  refine dwp_lenm (t := 1) rfl fun hl1 hL1 => ?_
  refine dwp_seq ?_
  refine dwp_region ?_
  refine walk_r rfl rfl rfl (op_move (.inr rfl) (ev1 rfl)) ?_
  refine walk_nil ?_
  refine dwp_seq ?_
  refine dwp_seq ?_
  refine dwp_region ?_
  refine walk_r rfl rfl rfl (op_move (.inl rfl) (ev1 rfl)) ?_
  refine walk_r rfl rfl rfl (op_lenm rfl sl22 (ev1 rfl)) ?_
  refine walk_r rfl rfl rfl (op_move (.inl rfl) (ev1 rfl)) ?_
  refine walk_r rfl rfl rfl (op_lenm rfl sl22 (ev1 rfl)) ?_
  refine walk_r rfl rfl rfl (op_neq rfl (ev1 rfl) (ev1 rfl)) ?_
  refine walk_nil ?_
  refine dwp_cond rfl (fun c1 => ?_) (fun c1 => ?_)
  · try simp only [decide_eq_true_eq, decide_eq_false_iff_not, beq_iff_eq, bne_iff_ne, beq_eq_false_iff_ne, bne_eq_false_iff_eq, Bool.not_eq_true', Bool.not_eq_false', Bool.and_eq_true, Bool.or_eq_true, Bool.or_eq_false_iff, ne_eq, Decidable.not_not, Int.not_lt, Int.not_le] at c1
    refine dwp_seq ?_
    refine dwp_region ?_
    refine walk_r rfl rfl rfl (op_move (.inr rfl) (ev1 rfl)) ?_
    refine walk_nil ?_
    refine dwp_ret ?_
    refine kend0 (rs1 rfl (rv_t rfl)) rfl ?_
    have hne : l ≠ r := fun e => by subst e; exact c1 rfl
    rw [decide_eq_false hne]
  · try simp only [decide_eq_true_eq, decide_eq_false_iff_not, beq_iff_eq, bne_iff_ne, beq_eq_false_iff_ne, bne_eq_false_iff_eq, Bool.not_eq_true', Bool.not_eq_false', Bool.and_eq_true, Bool.or_eq_true, Bool.or_eq_false_iff, ne_eq, Decidable.not_not, Int.not_lt, Int.not_le] at c1
    have hlen : l.length = r.length := by omega
    refine dwp_skip ?_
    refine dwp_seq ?_
    refine dwp_seq ?_
    refine dwp_region ?_
    refine walk_r rfl rfl rfl (op_move (.inl rfl) (ev1 rfl)) ?_
    refine walk_r rfl rfl rfl (op_lenm rfl sl22 (ev1 rfl)) ?_
    refine walk_r rfl rfl rfl (op_move (.inl rfl) (ev1 rfl)) ?_
    refine walk_nil ?_
    refine dwp_block ?_
    refine dwp_loopS ⟨hs0, rfl⟩ (α := Nat) (fun k => [(17, .val (.int .i64 (k : Int)))]) [(1, _), (2, _), (15, _), (16, _)] (fun k => []) [] (fun k => k ≤ l.length ∧ l.take k = r.take k) (fun k => l.length - k) 0 [] (by simp) rfl ⟨rfl, rfl, rfl, rfl, trivial⟩ ⟨rfl, trivial⟩ trivial ?_
    intro k hx
    simp only [upd, List.set_cons_zero, List.set_cons_succ, List.cons_append, List.nil_append]
    obtain ⟨hk, he⟩ := hx
    refine dwp_seq ?_
    refine dwp_region ?_
    refine walk_r rfl rfl rfl (op_lss rfl (ev1 rfl) (ev1 rfl)) ?_
    refine walk_nil ?_
    refine dwp_seq ?_
    refine dwp_cond rfl (fun c2 => ?_) (fun c2 => ?_)
    · try simp only [decide_eq_true_eq, decide_eq_false_iff_not, beq_iff_eq, bne_iff_ne, beq_eq_false_iff_ne, bne_eq_false_iff_eq, Bool.not_eq_true', Bool.not_eq_false', Bool.and_eq_true, Bool.or_eq_true, Bool.or_eq_false_iff, ne_eq, Decidable.not_not, Int.not_lt, Int.not_le] at c2
      refine dwp_skip ?_
      refine dwp_seq ?_
      refine dwp_block ?_
      refine dwp_seq ?_
      refine dwp_holes 1 (by simp only [holes, List.cons_append, List.nil_append]; exact rfl) ?_
      refine dwp_region ?_
      refine walk_r rfl rfl rfl (op_move (.inl rfl) (ev1 rfl)) ?_
      refine walk_r rfl rfl rfl (op_ixmr (k) (by decide) rfl sl22 (ev1 rfl) (ev1 rfl) (fun _ => rfl) (by omega) (fun _ => rfl)) ?_
      refine walk_r rfl rfl rfl (op_lddr rfl tb38 (ev1 rfl) rfl rfl) ?_
      refine walk_w rfl rfl rfl (op_alloc 0 rfl zr38 rfl) (by simp only [upd, List.set_cons_zero, List.set_cons_succ]; exact rfl) ?_
      refine walk_r rfl rfl rfl (op_move (.inr rfl) (ev1 rfl)) ?_
      refine walk_s rfl rfl (op_stam rfl tb38 (ev1 rfl) (ev1 rfl) rfl rfl rfl rfl) (by simp only [upd, List.set_cons_zero, List.set_cons_succ]; exact rfl) ?_
      refine walk_nil ?_
      refine dwp_seq ?_
      refine dwp_holes 1 (by simp only [holes, List.cons_append, List.nil_append]; exact rfl) ?_
      refine dwp_region ?_
      refine walk_r rfl rfl rfl (op_move (.inl rfl) (ev1 rfl)) ?_
      refine walk_r rfl rfl rfl (op_move (.inl rfl) (ev1 rfl)) ?_
      refine walk_r rfl rfl rfl (op_ixmr (k) (by decide) rfl sl22 (ev1 rfl) (ev1 rfl) (fun _ => rfl) (by omega) (fun _ => rfl)) ?_
      refine walk_r rfl rfl rfl (op_lddr rfl tb38 (ev1 rfl) rfl rfl) ?_
      refine walk_w rfl rfl rfl (op_alloc 1 rfl zr38 rfl) (by simp only [upd, List.set_cons_zero, List.set_cons_succ]; exact rfl) ?_
      refine walk_s rfl rfl (op_stam rfl tb38 (ev1 rfl) (ev1 rfl) rfl rfl rfl rfl) (by simp only [upd, List.set_cons_zero, List.set_cons_succ]; exact rfl) ?_
      refine walk_nil ?_
      refine dwp_seq ?_
      refine dwp_region ?_
      refine walk_r rfl rfl rfl (op_move (.inl rfl) (ev1 rfl)) ?_
      refine walk_r rfl rfl rfl (op_ldmw rfl tb38 (ev1 rfl) rfl rfl) ?_
      refine walk_r rfl rfl rfl (op_ldmw rfl tb38 (ev1 rfl) rfl rfl) ?_
      refine walk_r rfl rfl rfl (dop_call [] [] [] rfl (ev1 rfl) (ec (ev1 rfl) (ec (ev1 rfl) en)) rfl rfl (nsame1_d _ _ (hl _ (List.getElem_mem _)) (hr _ (List.getElem_mem _))) rfl rfl rfl rfl rfl rfl) ?_
      refine walk_r rfl rfl rfl (op_not rfl (ev1 rfl)) ?_
      refine walk_nil ?_
      refine dwp_cond rfl (fun c2_ => ?_) (fun c2_ => ?_)
      · have c3_ : l[k] ≠ r[k] := by simpa using c2_
        refine dwp_seq ?_
        refine dwp_region ?_
        refine walk_r rfl rfl rfl (op_move (.inr rfl) (ev1 rfl)) ?_
        refine walk_nil ?_
        refine dwp_ret ?_
        refine kend0 (rs1 rfl (rv_t rfl)) rfl ?_
        have hne : l ≠ r := fun e => by subst e; exact c3_ rfl
        rw [decide_eq_false hne]
      · have c3_ : l[k] = r[k] := by simpa using c2_
        refine dwp_skip ?_
        refine dwp_region ?_
        refine walk_r rfl rfl rfl (op_add' rfl (ev1 rfl) (ev1 rfl) (fun _ => IntWalk.i64_in _ (by omega))) ?_
        refine walk_r rfl rfl rfl (op_move (.inl rfl) (ev1 rfl)) ?_
        refine walk_nil ?_
        refine ⟨k + 1, [], ⟨by omega, by rw [List.take_succ_eq_append_getElem (by omega), List.take_succ_eq_append_getElem (by omega), he, c3_]⟩, by simp only []; omega, rfl, ⟨rfl, rfl, rfl, rfl, rfl, trivial⟩, trivial⟩
    · try simp only [decide_eq_true_eq, decide_eq_false_iff_not, beq_iff_eq, bne_iff_ne, beq_eq_false_iff_ne, bne_eq_false_iff_eq, Bool.not_eq_true', Bool.not_eq_false', Bool.and_eq_true, Bool.or_eq_true, Bool.or_eq_false_iff, ne_eq, Decidable.not_not, Int.not_lt, Int.not_le] at c2
      refine dwp_exit ?_
      refine dwp_seq ?_
      refine dwp_region ?_
      refine walk_r rfl rfl rfl (op_move (.inr rfl) (ev1 rfl)) ?_
      refine walk_nil ?_
      refine dwp_ret ?_
      refine kend0 (rs1 rfl (rv_t rfl)) rfl ?_
      have e : l = r := by
        have h := he
        rw [List.take_of_length_le (by omega), List.take_of_length_le (by omega)] at h
        exact h
      rw [decide_eq_true e]

set_option maxRecDepth 4000 in
set_option maxHeartbeats 1000000 in
theorem nsame_d (l r : List Par) (L M : Nat) (hl : ∀ p ∈ l, parN p) (hr : ∀ p ∈ r, parN p) : DFun Try.prog 12 [.agg [.slm 3 (l).length ((l).flatMap pD), .val (.int .u64 (L : Int))], .agg [.slm 3 (r).length ((r).flatMap pD), .val (.int .u64 (M : Int))]] [] (.val (.bool (((L : Int) == (M : Int)) && decide (l = r)))) [] := by
  refine dcalls_go (N := 17) 0 (by kernel_rfl) Try.func12 rfl rfl rfl (by simp only [fr0, Nat.zero_add, Nat.reduceAdd]; exact rfl) rfl fun s0 hs0 => ?_
  refine dwp_seq ?_
  refine dwp_holes 2 (by simp only [holes, List.cons_append, List.nil_append]; exact rfl) ?_
  refine dwp_region ?_
  refine walk_w rfl rfl rfl (op_boxam 0 rfl (ev1 rfl) rfl) (by simp only [upd, List.set_cons_zero, List.set_cons_succ]; exact rfl) ?_
  refine walk_w rfl rfl rfl (op_boxam 1 rfl (ev1 rfl) rfl) (by simp only [upd, List.set_cons_zero, List.set_cons_succ]; exact rfl) ?_
  refine walk_r rfl rfl rfl (op_move (.inr rfl) (ev1 rfl)) ?_
  refine walk_nil ?_
  refine dwp_seq ?_
  refine dwp_region ?_
  refine walk_r rfl rfl rfl (op_fa rfl fo25_1 (ev1 rfl)) ?_
  refine walk_r rfl rfl rfl (op_ldm rfl tb23 (ev1 rfl) rfl rfl) ?_
  refine walk_r rfl rfl rfl (op_fa rfl fo25_1 (ev1 rfl)) ?_
  refine walk_r rfl rfl rfl (op_ldm rfl tb23 (ev1 rfl) rfl rfl) ?_
  refine walk_r rfl rfl rfl (op_eql rfl (ev1 rfl) (ev1 rfl)) ?_
  refine walk_r rfl rfl rfl (op_move (.inl rfl) (ev1 rfl)) ?_
  refine walk_gr (gd_t rfl rfl rfl) rfl rfl rfl (op_fa rfl fo25_0 (ev1 rfl)) ?_
  refine walk_gr (gd_t rfl rfl rfl) rfl rfl rfl (op_ldm rfl tb22 (ev2 rfl) rfl rfl) ?_
  refine walk_gr (gd_t rfl rfl rfl) rfl rfl rfl (op_fa rfl fo25_0 (ev1 rfl)) ?_
  refine walk_gr (gd_t rfl rfl rfl) rfl rfl rfl (op_ldm rfl tb22 (ev2 rfl) rfl rfl) ?_
  refine walk_gr (gd_t rfl rfl rfl) rfl rfl rfl (dop_call [] [] [] rfl (ev1 rfl) (ec (ev2 rfl) (ec (ev2 rfl) (ec (ev1 rfl) en))) rfl rfl (eqfP_d l r hl hr) rfl rfl rfl rfl rfl rfl) ?_
  refine walk_r rfl rfl rfl (op_and rfl (ev1 rfl) (ev3 rfl id)) ?_
  refine walk_r rfl rfl rfl (op_move (.inr rfl) (ev1 rfl)) ?_
  refine walk_nil ?_
  refine dwp_ret ?_
  refine kend0 (rs1 rfl (rv_t rfl)) rfl ?_
  rfl

set_option maxRecDepth 4000 in
set_option maxHeartbeats 1000000 in
theorem rsameb_d (l r : List Nat) : DFun Try.prog 51 [.slf 1 (l).length ((l).flatMap un8), .slf 1 (r).length ((r).flatMap un8)] [] (.val (.bool (decide (l = r)))) [] := by
  refine dcalls_go (N := 26) 0 (by kernel_rfl) Try.func51 rfl rfl rfl (by simp only [fr0, Nat.zero_add, Nat.reduceAdd]; exact rfl) rfl fun s0 hs0 => ?_
  refine dwp_len (t := 0) rfl fun hl0 hL0 => ?_
  refine dwp_len (t := 1) rfl fun hl1 hL1 => ?_
  refine dwp_seq ?_
  refine dwp_region ?_
  refine walk_r rfl rfl rfl (op_move (.inr rfl) (ev1 rfl)) ?_
  refine walk_nil ?_
  refine dwp_seq ?_
  refine dwp_seq ?_
  refine dwp_region ?_
  refine walk_r rfl rfl rfl (op_move (.inl rfl) (ev1 rfl)) ?_
  refine walk_r rfl rfl rfl (op_len rfl sl36 (ev1 rfl)) ?_
  refine walk_r rfl rfl rfl (op_move (.inl rfl) (ev1 rfl)) ?_
  refine walk_r rfl rfl rfl (op_len rfl sl36 (ev1 rfl)) ?_
  refine walk_r rfl rfl rfl (op_neq rfl (ev1 rfl) (ev1 rfl)) ?_
  refine walk_nil ?_
  refine dwp_cond rfl (fun c1 => ?_) (fun c1 => ?_)
  · try simp only [decide_eq_true_eq, decide_eq_false_iff_not, beq_iff_eq, bne_iff_ne, beq_eq_false_iff_ne, bne_eq_false_iff_eq, Bool.not_eq_true', Bool.not_eq_false', Bool.and_eq_true, Bool.or_eq_true, Bool.or_eq_false_iff, ne_eq, Decidable.not_not, Int.not_lt, Int.not_le] at c1
    refine dwp_seq ?_
    refine dwp_region ?_
    refine walk_r rfl rfl rfl (op_move (.inr rfl) (ev1 rfl)) ?_
    refine walk_nil ?_
    refine dwp_ret ?_
    refine kend0 (rs1 rfl (rv_t rfl)) rfl ?_
    have hne : l ≠ r := fun e => by subst e; exact c1 rfl
    rw [decide_eq_false hne]
  · try simp only [decide_eq_true_eq, decide_eq_false_iff_not, beq_iff_eq, bne_iff_ne, beq_eq_false_iff_ne, bne_eq_false_iff_eq, Bool.not_eq_true', Bool.not_eq_false', Bool.and_eq_true, Bool.or_eq_true, Bool.or_eq_false_iff, ne_eq, Decidable.not_not, Int.not_lt, Int.not_le] at c1
    have hlen : l.length = r.length := by omega
    refine dwp_skip ?_
    refine dwp_seq ?_
    refine dwp_seq ?_
    refine dwp_region ?_
    refine walk_r rfl rfl rfl (op_move (.inl rfl) (ev1 rfl)) ?_
    refine walk_r rfl rfl rfl (op_len rfl sl36 (ev1 rfl)) ?_
    refine walk_r rfl rfl rfl (op_move (.inl rfl) (ev1 rfl)) ?_
    refine walk_nil ?_
    refine dwp_block ?_
    refine dwp_loopS ⟨hs0, rfl⟩ (α := Nat) (fun k => [(14, .val (.int .i64 (k : Int)))]) [(1, _), (12, _), (13, _)] (fun k => []) [] (fun k => k ≤ l.length ∧ l.take k = r.take k) (fun k => l.length - k) 0 [] (by simp) rfl ⟨rfl, rfl, rfl, trivial⟩ ⟨rfl, trivial⟩ trivial ?_
    intro k hx
    simp only [upd, List.set_cons_zero, List.set_cons_succ, List.cons_append, List.nil_append]
    obtain ⟨hk, he⟩ := hx
    refine dwp_seq ?_
    refine dwp_region ?_
    refine walk_r rfl rfl rfl (op_lss rfl (ev1 rfl) (ev1 rfl)) ?_
    refine walk_nil ?_
    refine dwp_seq ?_
    refine dwp_cond rfl (fun c2 => ?_) (fun c2 => ?_)
    · try simp only [decide_eq_true_eq, decide_eq_false_iff_not, beq_iff_eq, bne_iff_ne, beq_eq_false_iff_ne, bne_eq_false_iff_eq, Bool.not_eq_true', Bool.not_eq_false', Bool.and_eq_true, Bool.or_eq_true, Bool.or_eq_false_iff, ne_eq, Decidable.not_not, Int.not_lt, Int.not_le] at c2
      refine dwp_skip ?_
      refine dwp_seq ?_
      refine dwp_block ?_
      refine dwp_seq ?_
      refine dwp_region ?_
      refine walk_r rfl rfl rfl (op_move (.inl rfl) (ev1 rfl)) ?_
      refine walk_r rfl rfl rfl (op_ixsr (j := k) rfl sl36 (ev1 rfl) (ev1 rfl) (fun _ => rfl) (by decide) (by omega) (by omega)) ?_
      refine walk_r rfl rfl rfl (op_ldod rfl tb5 (ev1 rfl) rfl) ?_
      refine walk_r rfl rfl rfl (op_move (.inr rfl) (ev1 rfl)) ?_
      refine walk_r rfl rfl rfl (op_move (.inr rfl) (ev1 rfl)) ?_
      refine walk_nil ?_
      refine dwp_seq ?_
      refine dwp_region ?_
      refine walk_r rfl rfl rfl (op_move (.inl rfl) (ev1 rfl)) ?_
      refine walk_r rfl rfl rfl (op_move (.inl rfl) (ev1 rfl)) ?_
      refine walk_r rfl rfl rfl (op_move (.inl rfl) (ev1 rfl)) ?_
      refine walk_r rfl rfl rfl (op_ixsr (j := k) rfl sl36 (ev1 rfl) (ev1 rfl) (fun _ => rfl) (by decide) (by omega) (by omega)) ?_
      refine walk_r rfl rfl rfl (op_ldod rfl tb5 (ev1 rfl) rfl) ?_
      refine walk_r rfl rfl rfl (op_neq rfl (ev1 rfl) (ev1 rfl)) ?_
      refine walk_nil ?_
      refine dwp_cond rfl (fun c2_ => ?_) (fun c2_ => ?_)
      · have c3_ : l[k] ≠ r[k] := by simp at c2_; omega
        refine dwp_seq ?_
        refine dwp_region ?_
        refine walk_r rfl rfl rfl (op_move (.inr rfl) (ev1 rfl)) ?_
        refine walk_nil ?_
        refine dwp_ret ?_
        refine kend0 (rs1 rfl (rv_t rfl)) rfl ?_
        have hne : l ≠ r := fun e => by subst e; exact c3_ rfl
        rw [decide_eq_false hne]
      · have c3_ : l[k] = r[k] := by simp at c2_; omega
        refine dwp_skip ?_
        refine dwp_region ?_
        refine walk_r rfl rfl rfl (op_add' rfl (ev1 rfl) (ev1 rfl) (fun _ => IntWalk.i64_in _ (by omega))) ?_
        refine walk_r rfl rfl rfl (op_move (.inl rfl) (ev1 rfl)) ?_
        refine walk_nil ?_
        refine ⟨k + 1, [], ⟨by omega, by rw [List.take_succ_eq_append_getElem (by omega), List.take_succ_eq_append_getElem (by omega), he, c3_]⟩, by simp only []; omega, rfl, ⟨rfl, rfl, rfl, rfl, trivial⟩, trivial⟩
    · try simp only [decide_eq_true_eq, decide_eq_false_iff_not, beq_iff_eq, bne_iff_ne, beq_eq_false_iff_ne, bne_eq_false_iff_eq, Bool.not_eq_true', Bool.not_eq_false', Bool.and_eq_true, Bool.or_eq_true, Bool.or_eq_false_iff, ne_eq, Decidable.not_not, Int.not_lt, Int.not_le] at c2
      refine dwp_exit ?_
      refine dwp_seq ?_
      refine dwp_region ?_
      refine walk_r rfl rfl rfl (op_move (.inr rfl) (ev1 rfl)) ?_
      refine walk_nil ?_
      refine dwp_ret ?_
      refine kend0 (rs1 rfl (rv_t rfl)) rfl ?_
      have e : l = r := by
        have h := he
        rw [List.take_of_length_le (by omega), List.take_of_length_le (by omega)] at h
        exact h
      rw [decide_eq_true e]

set_option maxRecDepth 4000 in
set_option maxHeartbeats 1000000 in
theorem rsamep_d (p q : Par) : DFun Try.prog 23 [.agg (pD p), .agg (pD q)] [] (.val (.bool (decide (p = q)))) [] := by
  refine dcalls_go (N := 24) 0 (by kernel_rfl) Try.func23 rfl rfl rfl (by simp only [fr0, Nat.zero_add, Nat.reduceAdd]; exact rfl) rfl fun s0 hs0 => ?_
  refine dwp_seq ?_
  refine dwp_holes 2 (by simp only [holes, List.cons_append, List.nil_append]; exact rfl) ?_
  refine dwp_region ?_
  refine walk_w rfl rfl rfl (op_boxam 0 rfl (ev1 rfl) rfl) (by simp only [upd, List.set_cons_zero, List.set_cons_succ]; exact rfl) ?_
  refine walk_w rfl rfl rfl (op_boxam 1 rfl (ev1 rfl) rfl) (by simp only [upd, List.set_cons_zero, List.set_cons_succ]; exact rfl) ?_
  refine walk_r rfl rfl rfl (op_move (.inr rfl) (ev1 rfl)) ?_
  refine walk_nil ?_
  refine dwp_seq ?_
  refine dwp_region ?_
  refine walk_r rfl rfl rfl (op_fa rfl fo38_0 (ev1 rfl)) ?_
  refine walk_r rfl rfl rfl (op_ldm rfl tb3 (ev1 rfl) rfl rfl) ?_
  refine walk_r rfl rfl rfl (op_fa rfl fo38_0 (ev1 rfl)) ?_
  refine walk_r rfl rfl rfl (op_ldm rfl tb3 (ev1 rfl) rfl rfl) ?_
  refine walk_r rfl rfl rfl (op_eql rfl (ev1 rfl) (ev1 rfl)) ?_
  refine walk_r rfl rfl rfl (op_move (.inl rfl) (ev1 rfl)) ?_
  refine walk_gr (gd_t rfl rfl rfl) rfl rfl rfl (op_fa rfl fo38_2 (ev1 rfl)) ?_
  refine walk_gr (gd_t rfl rfl rfl) rfl rfl rfl (op_ldm rfl tb4 (ev2 rfl) rfl rfl) ?_
  refine walk_gr (gd_t rfl rfl rfl) rfl rfl rfl (op_fa rfl fo38_2 (ev1 rfl)) ?_
  refine walk_gr (gd_t rfl rfl rfl) rfl rfl rfl (op_ldm rfl tb4 (ev2 rfl) rfl rfl) ?_
  refine walk_gr (gd_t rfl rfl rfl) rfl rfl rfl (op_eqb rfl un4 (ev2 rfl) (ev2 rfl)) ?_
  refine walk_r rfl rfl rfl (op_and rfl (ev1 rfl) (ev3 rfl id)) ?_
  refine walk_r rfl rfl rfl (op_move (.inl rfl) (ev1 rfl)) ?_
  refine walk_gr (gd_t rfl rfl rfl) rfl rfl rfl (op_fa rfl fo38_1 (ev1 rfl)) ?_
  refine walk_gr (gd_t rfl rfl rfl) rfl rfl rfl (op_ldm rfl tb36 (ev2 rfl) rfl rfl) ?_
  refine walk_gr (gd_t rfl rfl rfl) rfl rfl rfl (op_fa rfl fo38_1 (ev1 rfl)) ?_
  refine walk_gr (gd_t rfl rfl rfl) rfl rfl rfl (op_ldm rfl tb36 (ev2 rfl) rfl rfl) ?_
  refine walk_gr (gd_t rfl rfl rfl) rfl rfl rfl (dop_call [] [] [] rfl (ev1 rfl) (ec (ev2 rfl) (ec (ev2 rfl) en)) rfl rfl (rsameb_d p.b q.b) rfl rfl rfl rfl rfl rfl) ?_
  refine walk_r rfl rfl rfl (op_and rfl (ev1 rfl) (ev3 rfl id)) ?_
  refine walk_r rfl rfl rfl (op_move (.inr rfl) (ev1 rfl)) ?_
  refine walk_nil ?_
  refine dwp_ret ?_
  refine kend0 (rs1 rfl (rv_t rfl)) rfl ?_
  rw [← parB_dec]; rfl

set_option maxRecDepth 4000 in
set_option maxHeartbeats 1000000 in
theorem rsame_d (l r : List Par) (L M : Nat) (hll : l.length ≤ 1000000) : DFun Try.prog 13 [.agg [.slm 3 (l).length ((l).flatMap pD), .val (.int .u64 (L : Int))], .agg [.slm 3 (r).length ((r).flatMap pD), .val (.int .u64 (M : Int))]] [] (.val (.bool (((L : Int) == (M : Int)) && decide (l = r)))) [] := by
  refine dcalls_go (N := 38) 0 (by kernel_rfl) Try.func13 rfl rfl rfl (by simp only [fr0, Nat.zero_add, Nat.reduceAdd]; exact rfl) rfl fun s0 hs0 => ?_
  refine dwp_seq ?_
  refine dwp_holes 2 (by simp only [holes, List.cons_append, List.nil_append]; exact rfl) ?_
  refine dwp_region ?_
  refine walk_w rfl rfl rfl (op_boxam 0 rfl (ev1 rfl) rfl) (by simp only [upd, List.set_cons_zero, List.set_cons_succ]; exact rfl) ?_
  refine walk_w rfl rfl rfl (op_boxam 1 rfl (ev1 rfl) rfl) (by simp only [upd, List.set_cons_zero, List.set_cons_succ]; exact rfl) ?_
  refine walk_r rfl rfl rfl (op_move (.inr rfl) (ev1 rfl)) ?_
  refine walk_nil ?_
  refine dwp_seq ?_
  refine dwp_seq ?_
  refine dwp_region ?_
  refine walk_r rfl rfl rfl (op_fa rfl fo25_1 (ev1 rfl)) ?_
  refine walk_r rfl rfl rfl (op_ldm rfl tb23 (ev1 rfl) rfl rfl) ?_
  refine walk_r rfl rfl rfl (op_fa rfl fo25_1 (ev1 rfl)) ?_
  refine walk_r rfl rfl rfl (op_ldm rfl tb23 (ev1 rfl) rfl rfl) ?_
  refine walk_r rfl rfl rfl (op_neq rfl (ev1 rfl) (ev1 rfl)) ?_
  refine walk_r rfl rfl rfl (op_move (.inl rfl) (ev1 rfl)) ?_
  refine walk_gr (gd_f rfl rfl rfl) rfl rfl rfl (op_fa rfl fo25_0 (ev1 rfl)) ?_
  refine walk_gr (gd_f rfl rfl rfl) rfl rfl rfl (op_ldm rfl tb22 (ev2 rfl) rfl rfl) ?_
  refine walk_gr (gd_f rfl rfl rfl) rfl rfl rfl (op_lenm rfl sl22 (ev2 rfl)) ?_
  refine walk_gr (gd_f rfl rfl rfl) rfl rfl rfl (op_fa rfl fo25_0 (ev1 rfl)) ?_
  refine walk_gr (gd_f rfl rfl rfl) rfl rfl rfl (op_ldm rfl tb22 (ev2 rfl) rfl rfl) ?_
  refine walk_gr (gd_f rfl rfl rfl) rfl rfl rfl (op_lenm rfl sl22 (ev2 rfl)) ?_
  refine walk_gr (gd_f rfl rfl rfl) rfl rfl rfl (op_neq rfl (ev2 rfl) (ev2 rfl)) ?_
  refine walk_r rfl rfl rfl (op_or rfl (ev1 rfl) (ev3 rfl id)) ?_
  refine walk_nil ?_
  refine dwp_cond rfl (fun cS => ?_) (fun cS => ?_)
  · refine dwp_seq ?_
    refine dwp_region ?_
    refine walk_r rfl rfl rfl (op_move (.inr rfl) (ev1 rfl)) ?_
    refine walk_nil ?_
    refine dwp_ret ?_
    refine kend0 (rs1 rfl (rv_t rfl)) rfl ?_
    rw [sameN_no cS]
  · have hLM : (L : Int) = (M : Int) ∧ l.length = r.length := by simp at cS; omega
    obtain ⟨hLM, hlen⟩ := hLM
    refine dwp_skip ?_
    refine dwp_seq ?_
    refine dwp_seq ?_
    refine dwp_region ?_
    refine walk_r rfl rfl rfl (op_fa rfl fo25_0 (ev1 rfl)) ?_
    refine walk_r rfl rfl rfl (op_ldm rfl tb22 (ev1 rfl) rfl rfl) ?_
    refine walk_r rfl rfl rfl (op_lenm rfl sl22 (ev1 rfl)) ?_
    refine walk_r rfl rfl rfl (op_move (.inl rfl) (ev1 rfl)) ?_
    refine walk_nil ?_
    refine dwp_block ?_
    refine dwp_loopS ⟨hs0, rfl⟩ (α := Nat) (fun k => [(24, .val (.int .i64 (k : Int)))]) [(3, _), (22, _), (23, _)] (fun k => []) [_, _] (fun k => k ≤ l.length ∧ l.take k = r.take k) (fun k => l.length - k) 0 [0, 1] (by simp) rfl ⟨rfl, rfl, rfl, trivial⟩ ⟨rfl, trivial⟩ ⟨rfl, rfl, trivial⟩ ?_
    intro k hx
    simp only [upd, List.set_cons_zero, List.set_cons_succ, List.cons_append, List.nil_append]
    obtain ⟨hk, he⟩ := hx
    refine dwp_seq ?_
    refine dwp_region ?_
    refine walk_r rfl rfl rfl (op_lss rfl (ev1 rfl) (ev1 rfl)) ?_
    refine walk_nil ?_
    refine dwp_seq ?_
    refine dwp_cond rfl (fun c2 => ?_) (fun c2 => ?_)
    · try simp only [decide_eq_true_eq, decide_eq_false_iff_not, beq_iff_eq, bne_iff_ne, beq_eq_false_iff_ne, bne_eq_false_iff_eq, Bool.not_eq_true', Bool.not_eq_false', Bool.and_eq_true, Bool.or_eq_true, Bool.or_eq_false_iff, ne_eq, Decidable.not_not, Int.not_lt, Int.not_le] at c2
      refine dwp_skip ?_
      refine dwp_seq ?_
      refine dwp_block ?_
      refine dwp_seq ?_
      refine dwp_holes 1 (by simp only [holes, List.cons_append, List.nil_append]; exact rfl) ?_
      refine dwp_region ?_
      refine walk_r rfl rfl rfl (op_move (.inl rfl) (ev1 rfl)) ?_
      refine walk_r rfl rfl rfl (op_ixmr (k) (by decide) rfl sl22 (ev1 rfl) (ev1 rfl) (fun _ => rfl) (by omega) (fun _ => rfl)) ?_
      refine walk_r rfl rfl rfl (op_lddr rfl tb38 (ev1 rfl) rfl rfl) ?_
      refine walk_w rfl rfl rfl (op_alloc 2 rfl zr38 rfl) (by simp only [upd, List.set_cons_zero, List.set_cons_succ]; exact rfl) ?_
      refine walk_r rfl rfl rfl (op_move (.inr rfl) (ev1 rfl)) ?_
      refine walk_s rfl rfl (op_stam rfl tb38 (ev1 rfl) (ev1 rfl) rfl rfl rfl rfl) (by simp only [upd, List.set_cons_zero, List.set_cons_succ]; exact rfl) ?_
      refine walk_nil ?_
      refine dwp_seq ?_
      refine dwp_draw [([2], []), ([], []), ([1], []), ([], []), ([], []), ([], []), ([], []), ([], [])] mixed (by kernel_rfl) ?_
      refine lex_r rfl rfl (op_ldmw rfl tb38 (ev1 rfl) rfl rfl) ?_
      refine lex_r rfl rfl (op_fa rfl fo25_0 (ev1 rfl)) ?_
      refine lex_r rfl rfl (op_ldm rfl tb22 (ev1 rfl) rfl rfl) ?_
      refine lex_r rfl rfl (op_move (.inl rfl) (ev1 rfl)) ?_
      refine lex_r rfl rfl (op_ixmr (k) (by decide) rfl sl22 (ev1 rfl) (ev1 rfl) (fun _ => rfl) (by omega) (fun _ => rfl)) ?_
      refine lex_r rfl rfl (op_lddr rfl tb38 (ev1 rfl) rfl rfl) ?_
      refine lex_r rfl rfl (dop_call [] [] [] rfl (ev1 rfl) (ec (ev1 rfl) (ec (ev1 rfl) en)) rfl rfl (rsamep_d _ _) rfl rfl rfl rfl rfl rfl) ?_
      refine lex_r rfl rfl (op_not rfl (ev1 rfl)) ?_
      refine lex_nil ?_
      refine dwp_cond rfl (fun c2_ => ?_) (fun c2_ => ?_)
      · have c3_ : l[k] ≠ r[k] := by simpa using c2_
        refine dwp_seq ?_
        refine dwp_region ?_
        refine walk_r rfl rfl rfl (op_move (.inr rfl) (ev1 rfl)) ?_
        refine walk_nil ?_
        refine dwp_ret ?_
        refine kend0 (rs1 rfl (rv_t rfl)) rfl ?_
        have hne : l ≠ r := fun e => by subst e; exact c3_ rfl
        rw [decide_eq_false hne, Bool.and_false]
      · have c3_ : l[k] = r[k] := by simpa using c2_
        refine dwp_skip ?_
        refine dwp_region ?_
        refine walk_r rfl rfl rfl (op_add' rfl (ev1 rfl) (ev1 rfl) (fun _ => IntWalk.i64_in _ (by omega))) ?_
        refine walk_r rfl rfl rfl (op_move (.inl rfl) (ev1 rfl)) ?_
        refine walk_nil ?_
        refine ⟨k + 1, [0, 1], ⟨by omega, by rw [List.take_succ_eq_append_getElem (by omega), List.take_succ_eq_append_getElem (by omega), he, c3_]⟩, by simp only []; omega, rfl, ⟨rfl, rfl, rfl, rfl, trivial⟩, ⟨rfl, rfl, trivial⟩⟩
    · try simp only [decide_eq_true_eq, decide_eq_false_iff_not, beq_iff_eq, bne_iff_ne, beq_eq_false_iff_ne, bne_eq_false_iff_eq, Bool.not_eq_true', Bool.not_eq_false', Bool.and_eq_true, Bool.or_eq_true, Bool.or_eq_false_iff, ne_eq, Decidable.not_not, Int.not_lt, Int.not_le] at c2
      refine dwp_exit ?_
      refine dwp_seq ?_
      refine dwp_region ?_
      refine walk_r rfl rfl rfl (op_move (.inr rfl) (ev1 rfl)) ?_
      refine walk_nil ?_
      refine dwp_ret ?_
      refine kend0 (rs1 rfl (rv_t rfl)) rfl ?_
      have e : l = r := by
        have h := he
        rw [List.take_of_length_le (by omega), List.take_of_length_le (by omega)] at h
        exact h
      have hfin : ((L : Int) == (M : Int) && decide (l = r)) = true := by simp [hLM, e]
      rw [hfin]

theorem evwk {pc : Bool} {F : Fr} {x : Operand} {d d' : D} (h : ∀ s v, Rep s d v → Rep s d' v) (he : Ev pc F x d) : Ev pc F x d' := by
  obtain ⟨e, h1, h2⟩ := he
  exact ⟨e, h1, fun s v hp hr => h s v (h2 s v hp hr)⟩
theorem right_no {P : List Par} {L : Int} {k : Nat} (hk : k < P.length) (h : mayB P[k] = false) : netB P L = false := by
  unfold netB
  have : P.all mayB = false := List.all_eq_false.2 ⟨_, List.getElem_mem hk, by simp [h]⟩
  rw [this, Bool.and_false]
theorem right_all {P : List Par} {L : Int} (h : ∀ i, ∀ (hi : i < P.length), mayB P[i] = true) : netB P L = (decide ((P.length : Int) ≤ 64) && decide (L ≤ 4611686018427387904)) := by
  unfold netB
  have : P.all mayB = true := List.all_eq_true.2 fun x hx => by
    obtain ⟨i, hi, rfl⟩ := List.getElem_of_mem hx
    exact h i hi
  rw [this, Bool.and_true]
  congr 1
  exact decide_eq_decide.2 (by omega)
def putP (P : List Par) (p : Par) : List Par := if P.length < 64 then P ++ [p] else P
def putL (P : List Par) (L : Nat) : Nat := if P.length < 64 then L else if L < 4611686018427387904 then L + 1 else L
def incB (l : List Nat) : List Nat := l.map fun x => (x + 1) % 256
def incP (p : Par) : Par := ⟨p.to, incB p.b, p.sp⟩
def parP (p : Par) (j : Nat) : Par := ⟨p.to, incB (p.b.take j) ++ p.b.drop j, p.sp⟩
theorem incB_len (l : List Nat) : (incB l).length = l.length := by simp [incB]
theorem parP_0 (p : Par) : parP p 0 = p := by simp [parP, incB]
theorem parP_all (p : Par) : parP p p.b.length = incP p := by simp [parP, incP]
theorem parP_len (p : Par) (j : Nat) : (parP p j).b.length = p.b.length := by simp [parP, incB]; omega
theorem parP_at {p : Par} {j : Nat} (h : j < p.b.length) : (parP p j).b[j]'(by rw [parP_len]; exact h) = p.b[j] := by
  simp only [parP]
  rw [List.getElem_append_right (by rw [incB_len, List.length_take]; omega)]
  simp [incB_len, show min j p.b.length = j by omega]
theorem parP_set {p : Par} {j : Nat} (h : j < p.b.length) : (parP p j).b.set j ((p.b[j] + 1) % 256) = (parP p (j + 1)).b := by
  simp only [parP]
  rw [List.set_append_right _ _ (by rw [incB_len, List.length_take]; omega), incB_len, List.length_take, show j - min j p.b.length = 0 by omega, List.drop_eq_getElem_cons h, List.set_cons_zero, List.take_succ_eq_append_getElem h]
  unfold incB
  rw [List.map_append, List.append_assoc]; rfl
def incK (P : List Par) (k : Nat) : List Par := (P.take k).map incP ++ P.drop k
theorem incK_0 (P : List Par) : incK P 0 = P := by simp [incK]
theorem incK_all (P : List Par) : incK P P.length = P.map incP := by simp [incK]
theorem incK_len (P : List Par) (k : Nat) : (incK P k).length = P.length := by simp [incK]; omega
theorem incK_at {P : List Par} {k : Nat} (h : k < P.length) : (incK P k)[k]? = some P[k] := by
  unfold incK
  rw [List.getElem?_append_right (by simp; omega)]
  simp [show min k P.length = k by omega, h]
theorem incK_succ {P : List Par} {k : Nat} (h : k < P.length) : (incK P k).set k (incP P[k]) = incK P (k + 1) := by
  unfold incK
  rw [List.set_append_right _ _ (by simp; omega), List.length_map, List.length_take, show k - min k P.length = 0 by omega, List.drop_eq_getElem_cons h, List.set_cons_zero, List.take_succ_eq_append_getElem h, List.map_append, List.append_assoc]; rfl
theorem famP_set (Q : List Par) (k n : Nat) (p : Par) (hn : p.b.length = n) : (famP Q).set k (.arr 5 1 n (p.b.flatMap un8)) = famP (Q.set k p) := by
  subst hn
  unfold famP
  rw [List.map_set]; rfl
theorem famK_at {P : List Par} {k j : Nat} (h : k < P.length) : (famP ((incK P k).set k (parP P[k] j)))[k]? = some (.arr 5 1 (parP P[k] j).b.length ((parP P[k] j).b.flatMap un8)) := by
  unfold famP
  rw [List.getElem?_map, List.getElem?_set_self (by rw [incK_len]; exact h)]
  rfl
theorem famK_0 {P : List Par} {k : Nat} (h : k < P.length) : (incK P k).set k (parP P[k] 0) = incK P k := by
  rw [parP_0]
  refine List.ext_getElem? fun i => ?_
  by_cases e : k = i
  · subst e; rw [List.getElem?_set_self (by rw [incK_len]; exact h), incK_at h]
  · rw [List.getElem?_set_ne e]
theorem famK_at0 {P : List Par} {k : Nat} (h : k < P.length) : (famP (incK P k))[k]? = some (.arr 5 1 P[k].b.length (P[k].b.flatMap un8)) := by
  unfold famP
  rw [List.getElem?_map, incK_at h]
  rfl
theorem famK_step {P : List Par} {k j : Nat} (h : k < P.length) (hj : j < P[k].b.length) : (famP ((incK P k).set k (parP P[k] j))).set k (.arr 5 1 (parP P[k] j).b.length (((parP P[k] j).b.set j ((P[k].b[j] + 1) % 256)).flatMap un8)) = famP ((incK P k).set k (parP P[k] (j + 1))) := by
  rw [parP_set hj, famP_set _ _ _ (parP P[k] (j + 1)) (by rw [parP_len, parP_len]), List.set_set]
theorem famK_end {P : List Par} {k : Nat} (h : k < P.length) : (incK P k).set k (parP P[k] P[k].b.length) = incK P (k + 1) := by rw [parP_all, incK_succ h]
theorem fx_at {P : List Par} {k : Nat} (h : k < P.zipIdx.length) : pF 0 P.zipIdx[k] = [.val (.int .i64 (P[k]'(by simpa using h)).to), .farr 0 k, .val (.bool (P[k]'(by simpa using h)).sp)] := by
  simp [List.getElem_zipIdx]
theorem op_ldfx {P' : Program} {pc : Bool} {o : Oper} {F : Fr} {M : List Blk} {P : List Par} {T T' : TypeId} {x : Operand} {i n : Nat} (j : Nat) (hj : j < P.length) (ho : o.op = .load T x) (hT : tyB P' T = some (true, 3)) (hx : Ev pc F x (.aloc i (j * 3))) (hM : M[i]? = some (.arx T' 3 n (P.zipIdx.flatMap (pF 0)))) : DOp P' pc o F M [i] (.agg [.val (.int .i64 P[j].to), .farr 0 j, .val (.bool P[j].sp)]) [] := by
  have h := op_ldxr (mk := pF 0) (l := P.zipIdx) (j := j) ho hT hx hM (fun _ => rfl) (by simpa using hj)
  rw [fx_at] at h
  exact h

set_option maxRecDepth 4000 in
set_option maxHeartbeats 1000000 in
theorem rmay_d (p : Par) : DFun Try.prog 18 [.agg (pD p)] [] (.val (.bool (mayB p))) [] := by
  refine dcalls_go (N := 17) 0 (by kernel_rfl) Try.func18 rfl rfl rfl (by simp only [fr0, Nat.zero_add, Nat.reduceAdd]; exact rfl) rfl fun s0 hs0 => ?_
  refine dwp_seq ?_
  refine dwp_holes 1 (by simp only [holes, List.cons_append, List.nil_append]; exact rfl) ?_
  refine dwp_region ?_
  refine walk_w rfl rfl rfl (op_boxam 0 rfl (ev1 rfl) rfl) (by simp only [upd, List.set_cons_zero, List.set_cons_succ]; exact rfl) ?_
  refine walk_r rfl rfl rfl (op_move (.inr rfl) (ev1 rfl)) ?_
  refine walk_nil ?_
  refine dwp_seq ?_
  refine dwp_region ?_
  refine walk_r rfl rfl rfl (op_fa rfl fo38_0 (ev1 rfl)) ?_
  refine walk_r rfl rfl rfl (op_ldm rfl tb3 (ev1 rfl) rfl rfl) ?_
  refine walk_r rfl rfl rfl (op_geq rfl (ev1 rfl) (ev1 rfl)) ?_
  refine walk_r rfl rfl rfl (op_move (.inl rfl) (ev1 rfl)) ?_
  refine walk_gr (gd_t rfl rfl rfl) rfl rfl rfl (op_fa rfl fo38_0 (ev1 rfl)) ?_
  refine walk_gr (gd_t rfl rfl rfl) rfl rfl rfl (op_ldm rfl tb3 (ev2 rfl) rfl rfl) ?_
  refine walk_gr (gd_t rfl rfl rfl) rfl rfl rfl (op_leq rfl (ev2 rfl) (ev1 rfl)) ?_
  refine walk_r rfl rfl rfl (op_and rfl (ev1 rfl) (ev3 rfl id)) ?_
  refine walk_r rfl rfl rfl (op_move (.inl rfl) (ev1 rfl)) ?_
  refine walk_gr (gd_t rfl rfl rfl) rfl rfl rfl (op_fa rfl fo38_1 (ev1 rfl)) ?_
  refine walk_gr (gd_t rfl rfl rfl) rfl rfl rfl (op_ldm rfl tb36 (ev2 rfl) rfl rfl) ?_
  refine walk_gr (gd_t rfl rfl rfl) rfl rfl rfl (op_len rfl sl36 (ev2 rfl)) ?_
  refine walk_gr (gd_t rfl rfl rfl) rfl rfl rfl (op_leq rfl (ev2 rfl) (ev1 rfl)) ?_
  refine walk_r rfl rfl rfl (op_and rfl (ev1 rfl) (ev3 rfl id)) ?_
  refine walk_r rfl rfl rfl (op_move (.inr rfl) (ev1 rfl)) ?_
  refine walk_nil ?_
  refine dwp_ret ?_
  refine kend0 (rs1 rfl (rv_t rfl)) rfl ?_
  rfl

set_option maxRecDepth 4000 in
set_option maxHeartbeats 1000000 in
theorem rright_d (P : List Par) (L : Nat) (hPl : P.length ≤ 1000000) : DFun Try.prog 10 [.agg [.slm 3 (P).length ((P).flatMap pD), .val (.int .u64 (L : Int))]] [] (.val (.bool (netB P (L : Int)))) [] := by
  refine dcalls_go (N := 25) 0 (by kernel_rfl) Try.func10 rfl rfl rfl (by simp only [fr0, Nat.zero_add, Nat.reduceAdd]; exact rfl) rfl fun s0 hs0 => ?_
  refine dwp_seq ?_
  refine dwp_holes 1 (by simp only [holes, List.cons_append, List.nil_append]; exact rfl) ?_
  refine dwp_region ?_
  refine walk_w rfl rfl rfl (op_boxam 0 rfl (ev1 rfl) rfl) (by simp only [upd, List.set_cons_zero, List.set_cons_succ]; exact rfl) ?_
  refine walk_r rfl rfl rfl (op_move (.inr rfl) (ev1 rfl)) ?_
  refine walk_nil ?_
  refine dwp_seq ?_
  refine dwp_seq ?_
  refine dwp_region ?_
  refine walk_r rfl rfl rfl (op_fa rfl fo25_0 (ev1 rfl)) ?_
  refine walk_r rfl rfl rfl (op_ldm rfl tb22 (ev1 rfl) rfl rfl) ?_
  refine walk_r rfl rfl rfl (op_lenm rfl sl22 (ev1 rfl)) ?_
  refine walk_r rfl rfl rfl (op_move (.inl rfl) (ev1 rfl)) ?_
  refine walk_nil ?_
  refine dwp_block ?_
  refine dwp_loopS ⟨hs0, rfl⟩ (α := Nat) (fun k => [(8, .val (.int .i64 (k : Int)))]) [(1, _), (6, _), (7, _)] (fun k => []) [_] (fun k => k ≤ P.length ∧ ∀ i, ∀ (hi : i < P.length), i < k → mayB P[i] = true) (fun k => P.length - k) 0 [0] (⟨by omega, fun i _ hi => absurd hi (Nat.not_lt_zero i)⟩) rfl ⟨rfl, rfl, rfl, trivial⟩ ⟨rfl, trivial⟩ ⟨rfl, trivial⟩ ?_
  intro k hx
  simp only [upd, List.set_cons_zero, List.set_cons_succ, List.cons_append, List.nil_append]
  obtain ⟨hk, hall⟩ := hx
  refine dwp_seq ?_
  refine dwp_region ?_
  refine walk_r rfl rfl rfl (op_lss rfl (ev1 rfl) (ev1 rfl)) ?_
  refine walk_nil ?_
  refine dwp_seq ?_
  refine dwp_cond rfl (fun c1 => ?_) (fun c1 => ?_)
  · try simp only [decide_eq_true_eq, decide_eq_false_iff_not, beq_iff_eq, bne_iff_ne, beq_eq_false_iff_ne, bne_eq_false_iff_eq, Bool.not_eq_true', Bool.not_eq_false', Bool.and_eq_true, Bool.or_eq_true, Bool.or_eq_false_iff, ne_eq, Decidable.not_not, Int.not_lt, Int.not_le] at c1
    refine dwp_skip ?_
    refine dwp_seq ?_
    refine dwp_block ?_
    refine dwp_seq ?_
    refine dwp_holes 1 (by simp only [holes, List.cons_append, List.nil_append]; exact rfl) ?_
    refine dwp_region ?_
    refine walk_r rfl rfl rfl (op_ixmr (k) (by decide) rfl sl22 (ev1 rfl) (ev1 rfl) (fun _ => rfl) (by omega) (fun _ => rfl)) ?_
    refine walk_r rfl rfl rfl (op_lddr rfl tb38 (ev1 rfl) rfl rfl) ?_
    refine walk_w rfl rfl rfl (op_alloc 1 rfl zr38 rfl) (by simp only [upd, List.set_cons_zero, List.set_cons_succ]; exact rfl) ?_
    refine walk_s rfl rfl (op_stam rfl tb38 (ev1 rfl) (ev1 rfl) rfl rfl rfl rfl) (by simp only [upd, List.set_cons_zero, List.set_cons_succ]; exact rfl) ?_
    refine walk_nil ?_
    refine dwp_seq ?_
    refine dwp_region ?_
    refine walk_r rfl rfl rfl (op_ldmw rfl tb38 (ev1 rfl) rfl rfl) ?_
    refine walk_r rfl rfl rfl (dop_call [] [] [] rfl (ev1 rfl) (ec (ev1 rfl) en) rfl rfl (rmay_d _) rfl rfl rfl rfl rfl rfl) ?_
    refine walk_r rfl rfl rfl (op_not rfl (ev1 rfl)) ?_
    refine walk_nil ?_
    refine dwp_cond rfl (fun c2_ => ?_) (fun c2_ => ?_)
    · have c3_ : mayB P[k] = false := by simpa using c2_
      refine dwp_seq ?_
      refine dwp_region ?_
      refine walk_r rfl rfl rfl (op_move (.inr rfl) (ev1 rfl)) ?_
      refine walk_nil ?_
      refine dwp_ret ?_
      refine kend0 (rs1 rfl (rv_t rfl)) rfl ?_
      rw [right_no (by omega) c3_]
    · have c3_ : mayB P[k] = true := by simpa using c2_
      refine dwp_skip ?_
      refine dwp_region ?_
      refine walk_r rfl rfl rfl (op_add' rfl (ev1 rfl) (ev1 rfl) (fun _ => IntWalk.i64_in _ (by omega))) ?_
      refine walk_r rfl rfl rfl (op_move (.inl rfl) (ev1 rfl)) ?_
      refine walk_nil ?_
      refine ⟨k + 1, [0], ⟨by omega, fun i hi hi2 => by
      by_cases e : i = k
      · subst e; exact c3_
      · exact hall i hi (by omega)⟩, by simp only []; omega, rfl, ⟨rfl, rfl, rfl, rfl, trivial⟩, ⟨rfl, trivial⟩⟩
  · try simp only [decide_eq_true_eq, decide_eq_false_iff_not, beq_iff_eq, bne_iff_ne, beq_eq_false_iff_ne, bne_eq_false_iff_eq, Bool.not_eq_true', Bool.not_eq_false', Bool.and_eq_true, Bool.or_eq_true, Bool.or_eq_false_iff, ne_eq, Decidable.not_not, Int.not_lt, Int.not_le] at c1
    refine dwp_exit ?_
    refine dwp_seq ?_
    refine dwp_region ?_
    refine walk_r rfl rfl rfl (op_fa rfl fo25_0 (ev1 rfl)) ?_
    refine walk_r rfl rfl rfl (op_ldm rfl tb22 (ev1 rfl) rfl rfl) ?_
    refine walk_r rfl rfl rfl (op_lenm rfl sl22 (ev1 rfl)) ?_
    refine walk_r rfl rfl rfl (op_leq rfl (ev1 rfl) (ev1 rfl)) ?_
    refine walk_r rfl rfl rfl (op_move (.inl rfl) (ev1 rfl)) ?_
    refine walk_gr (gd_t rfl rfl rfl) rfl rfl rfl (op_fa rfl fo25_1 (ev1 rfl)) ?_
    refine walk_gr (gd_t rfl rfl rfl) rfl rfl rfl (op_ldm rfl tb23 (ev2 rfl) rfl rfl) ?_
    refine walk_gr (gd_t rfl rfl rfl) rfl rfl rfl (op_leq rfl (ev2 rfl) (ev1 rfl)) ?_
    refine walk_r rfl rfl rfl (op_and rfl (ev1 rfl) (ev3 rfl id)) ?_
    refine walk_r rfl rfl rfl (op_move (.inr rfl) (ev1 rfl)) ?_
    refine walk_nil ?_
    refine dwp_ret ?_
    refine kend0 (rs1 rfl (rv_t rfl)) rfl ?_
    rw [right_all fun i hi => hall i hi (by omega)]

set_option maxRecDepth 4000 in
set_option maxHeartbeats 1000000 in
theorem rput_o (P : List Par) (L : Nat) (p : Par) (h : P.length < 64) : DFun Try.prog 17 [.agg [.slm 3 (P).length ((P).flatMap pD), .val (.int .u64 (L : Int))], .agg (pD p)] [] (.agg [.arr 0, .val (.int .u64 (L : Int))]) [.arx 38 3 ((P ++ [p])).length (((P ++ [p])).flatMap pD)] := by
  refine dcalls_go (N := 25) 0 (by kernel_rfl) Try.func17 rfl rfl rfl (by simp only [fr0, Nat.zero_add, Nat.reduceAdd]; exact rfl) rfl fun s0 hs0 => ?_
  refine dwp_seq ?_
  refine dwp_holes 3 (by simp only [holes, List.cons_append, List.nil_append]; exact rfl) ?_
  refine dwp_region ?_
  refine walk_w rfl rfl rfl (op_boxam 0 rfl (ev1 rfl) rfl) (by simp only [upd, List.set_cons_zero, List.set_cons_succ]; exact rfl) ?_
  refine walk_w rfl rfl rfl (op_boxam 1 rfl (ev1 rfl) rfl) (by simp only [upd, List.set_cons_zero, List.set_cons_succ]; exact rfl) ?_
  refine walk_w rfl rfl rfl (op_alloc 2 rfl zr25 rfl) (by simp only [upd, List.set_cons_zero, List.set_cons_succ]; exact rfl) ?_
  refine walk_nil ?_
  refine dwp_seq ?_
  refine dwp_seq ?_
  refine dwp_region ?_
  refine walk_r rfl rfl rfl (op_fa rfl fo25_0 (ev1 rfl)) ?_
  refine walk_r rfl rfl rfl (op_ldm rfl tb22 (ev1 rfl) rfl rfl) ?_
  refine walk_r rfl rfl rfl (op_lenm rfl sl22 (ev1 rfl)) ?_
  refine walk_r rfl rfl rfl (op_lss rfl (ev1 rfl) (ev1 rfl)) ?_
  refine walk_nil ?_
  refine dwp_if_t rfl (by simp; omega) ?_
  refine dwp_holes 3 (by simp only [holes, List.cons_append, List.nil_append]; exact rfl) ?_
  refine dwp_draw [([3], [3]), ([], []), ([0], []), ([3, 4], [3, 4]), ([1], []), ([], []), ([4, 5], [4, 5]), ([], []), ([0], [0])] mixed (by kernel_rfl) ?_
  refine lex_w rfl rfl (op_bsxs (ps := []) 3 rfl sl22 zr38 rfl en rfl rfl rfl rfl (by decide) (by decide) rfl) rfl (by simp only [upd, List.set_cons_zero, List.set_cons_succ]; exact rfl) ?_
  refine lex_r rfl rfl (op_fa rfl fo25_0 (ev1 rfl)) ?_
  refine lex_r rfl rfl (op_ldm rfl tb22 (ev1 rfl) rfl rfl) ?_
  refine lex_w rfl rfl (op_appr (j := 4) rfl sl22 zr38 rfl (ev1 rfl) (ev1 rfl) rfl rfl (fl_oc _) (fun _ => ⟨by omega, by omega⟩)) rfl (by simp only [upd, List.set_cons_zero, List.set_cons_succ]; exact rfl) ?_
  refine lex_r rfl rfl (op_ldmw rfl tb38 (ev1 rfl) rfl rfl) ?_
  refine lex_r rfl rfl (op_bsr (ps := [(0, .tmp 13)]) rfl sl22 zr38 rfl (ec (ev1 rfl) en) rfl rfl rfl (by rfl) rfl (by decide) (by decide)) ?_
  refine lex_w rfl rfl (op_appr (j := 5) rfl sl22 zr38 rfl (ev1 rfl) (ev1 rfl) rfl rfl (rfl) (fun _ => ⟨by omega, by omega⟩)) rfl (by simp only [upd, List.set_cons_zero, List.set_cons_succ]; exact rfl) ?_
  refine lex_r rfl rfl (op_fa rfl fo25_0 (ev1 rfl)) ?_
  refine lex_s rfl rfl (op_stm rfl tb22 (ev1 rfl) (ev1 rfl) (fun s v h => by cases h <;> exact ⟨rfl, rfl⟩) rfl (by first | decide | exact Nat.le_of_ble_eq_true rfl | simp)) rfl (by simp only [upd, List.set_cons_zero, List.set_cons_succ]; exact rfl) ?_
  refine lex_nil ?_
  refine dwp_seq ?_
  refine dwp_region ?_
  refine walk_r rfl rfl rfl (op_ldmw rfl tb25 (ev1 rfl) rfl rfl) ?_
  refine walk_s rfl rfl (op_stam rfl tb25 (ev1 rfl) (ev1 rfl) rfl rfl rfl rfl) (by simp only [upd, List.set_cons_zero, List.set_cons_succ]; exact rfl) ?_
  refine walk_nil ?_
  refine dwp_ret ?_
  refine kend [5] (rs1 rfl (rv_mw tb25 rfl rfl rfl)) rfl rfl ?_ ⟨?_, trivial⟩
  rfl
  all_goals first | exact rfl | exact arxr_fits (by simp) (by rw [List.flatMap_append]; simp; rfl) (fl_nl _)

set_option maxRecDepth 4000 in
set_option maxHeartbeats 1000000 in
theorem rput_full (P : List Par) (L : Nat) (p : Par) (h : ¬ P.length < 64) (h2 : L < 4611686018427387904) : DFun Try.prog 17 [.agg [.slm 3 (P).length ((P).flatMap pD), .val (.int .u64 (L : Int))], .agg (pD p)] [] (.agg [.slm 3 (P).length ((P).flatMap pD), .val (.int .u64 ((L + 1 : Nat) : Int))]) [] := by
  refine dcalls_go (N := 25) 0 (by kernel_rfl) Try.func17 rfl rfl rfl (by simp only [fr0, Nat.zero_add, Nat.reduceAdd]; exact rfl) rfl fun s0 hs0 => ?_
  refine dwp_seq ?_
  refine dwp_holes 3 (by simp only [holes, List.cons_append, List.nil_append]; exact rfl) ?_
  refine dwp_region ?_
  refine walk_w rfl rfl rfl (op_boxam 0 rfl (ev1 rfl) rfl) (by simp only [upd, List.set_cons_zero, List.set_cons_succ]; exact rfl) ?_
  refine walk_w rfl rfl rfl (op_boxam 1 rfl (ev1 rfl) rfl) (by simp only [upd, List.set_cons_zero, List.set_cons_succ]; exact rfl) ?_
  refine walk_w rfl rfl rfl (op_alloc 2 rfl zr25 rfl) (by simp only [upd, List.set_cons_zero, List.set_cons_succ]; exact rfl) ?_
  refine walk_nil ?_
  refine dwp_seq ?_
  refine dwp_seq ?_
  refine dwp_region ?_
  refine walk_r rfl rfl rfl (op_fa rfl fo25_0 (ev1 rfl)) ?_
  refine walk_r rfl rfl rfl (op_ldm rfl tb22 (ev1 rfl) rfl rfl) ?_
  refine walk_r rfl rfl rfl (op_lenm rfl sl22 (ev1 rfl)) ?_
  refine walk_r rfl rfl rfl (op_lss rfl (ev1 rfl) (ev1 rfl)) ?_
  refine walk_nil ?_
  refine dwp_if_f rfl (by simp; omega) ?_
  refine dwp_seq ?_
  refine dwp_region ?_
  refine walk_r rfl rfl rfl (op_fa rfl fo25_1 (ev1 rfl)) ?_
  refine walk_r rfl rfl rfl (op_ldm rfl tb23 (ev1 rfl) rfl rfl) ?_
  refine walk_r rfl rfl rfl (op_lss rfl (ev1 rfl) (ev1 rfl)) ?_
  refine walk_nil ?_
  refine dwp_if_t rfl (by simp; omega) ?_
  refine dwp_region ?_
  refine walk_r rfl rfl rfl (op_fa rfl fo25_1 (ev1 rfl)) ?_
  refine walk_r rfl rfl rfl (op_ldm rfl tb23 (ev1 rfl) rfl rfl) ?_
  refine walk_r rfl rfl rfl (op_add' rfl (ev1 rfl) (ev1 rfl) (fun _ => IntWalk.u64_in _ (by omega))) ?_
  refine walk_r rfl rfl rfl (op_fa rfl fo25_1 (ev1 rfl)) ?_
  refine walk_s rfl rfl (op_stm rfl tb23 (ev1 rfl) (ev1 rfl) (fun s v h => by cases h <;> exact ⟨rfl, rfl⟩) rfl (by first | decide | exact Nat.le_of_ble_eq_true rfl | simp)) (by simp only [upd, List.set_cons_zero, List.set_cons_succ]; exact rfl) ?_
  refine walk_nil ?_
  refine dwp_seq ?_
  refine dwp_region ?_
  refine walk_r rfl rfl rfl (op_ldmw rfl tb25 (ev1 rfl) rfl rfl) ?_
  refine walk_s rfl rfl (op_stam rfl tb25 (ev1 rfl) (ev1 rfl) rfl rfl rfl rfl) (by simp only [upd, List.set_cons_zero, List.set_cons_succ]; exact rfl) ?_
  refine walk_nil ?_
  refine dwp_ret ?_
  refine kend0 (rs1 rfl (rv_mw tb25 rfl rfl rfl)) rfl ?_
  rfl

set_option maxRecDepth 4000 in
set_option maxHeartbeats 1000000 in
theorem rput_max (P : List Par) (L : Nat) (p : Par) (h : ¬ P.length < 64) (h2 : ¬ L < 4611686018427387904) : DFun Try.prog 17 [.agg [.slm 3 (P).length ((P).flatMap pD), .val (.int .u64 (L : Int))], .agg (pD p)] [] (.agg [.slm 3 (P).length ((P).flatMap pD), .val (.int .u64 (L : Int))]) [] := by
  refine dcalls_go (N := 25) 0 (by kernel_rfl) Try.func17 rfl rfl rfl (by simp only [fr0, Nat.zero_add, Nat.reduceAdd]; exact rfl) rfl fun s0 hs0 => ?_
  refine dwp_seq ?_
  refine dwp_holes 3 (by simp only [holes, List.cons_append, List.nil_append]; exact rfl) ?_
  refine dwp_region ?_
  refine walk_w rfl rfl rfl (op_boxam 0 rfl (ev1 rfl) rfl) (by simp only [upd, List.set_cons_zero, List.set_cons_succ]; exact rfl) ?_
  refine walk_w rfl rfl rfl (op_boxam 1 rfl (ev1 rfl) rfl) (by simp only [upd, List.set_cons_zero, List.set_cons_succ]; exact rfl) ?_
  refine walk_w rfl rfl rfl (op_alloc 2 rfl zr25 rfl) (by simp only [upd, List.set_cons_zero, List.set_cons_succ]; exact rfl) ?_
  refine walk_nil ?_
  refine dwp_seq ?_
  refine dwp_seq ?_
  refine dwp_region ?_
  refine walk_r rfl rfl rfl (op_fa rfl fo25_0 (ev1 rfl)) ?_
  refine walk_r rfl rfl rfl (op_ldm rfl tb22 (ev1 rfl) rfl rfl) ?_
  refine walk_r rfl rfl rfl (op_lenm rfl sl22 (ev1 rfl)) ?_
  refine walk_r rfl rfl rfl (op_lss rfl (ev1 rfl) (ev1 rfl)) ?_
  refine walk_nil ?_
  refine dwp_if_f rfl (by simp; omega) ?_
  refine dwp_seq ?_
  refine dwp_region ?_
  refine walk_r rfl rfl rfl (op_fa rfl fo25_1 (ev1 rfl)) ?_
  refine walk_r rfl rfl rfl (op_ldm rfl tb23 (ev1 rfl) rfl rfl) ?_
  refine walk_r rfl rfl rfl (op_lss rfl (ev1 rfl) (ev1 rfl)) ?_
  refine walk_nil ?_
  refine dwp_if_f rfl (by simp; omega) ?_
  refine dwp_skip ?_
  refine dwp_seq ?_
  refine dwp_region ?_
  refine walk_r rfl rfl rfl (op_ldmw rfl tb25 (ev1 rfl) rfl rfl) ?_
  refine walk_s rfl rfl (op_stam rfl tb25 (ev1 rfl) (ev1 rfl) rfl rfl rfl rfl) (by simp only [upd, List.set_cons_zero, List.set_cons_succ]; exact rfl) ?_
  refine walk_nil ?_
  refine dwp_ret ?_
  refine kend0 (rs1 rfl (rv_mw tb25 rfl rfl rfl)) rfl ?_
  rfl

theorem net_frzA {P : Program} {f : FuncId} {args : List D} {Q : List Par} {u : Value} {T : TypeId} (h : DFun P f args [] (.agg [.arr 0, .val u]) [.arx T 3 Q.length (Q.flatMap pD)]) : DFun P f args [] (.agg [.slm 3 Q.length (Q.flatMap pD), .val u]) [] := freeze h (by
  simp [vw, vwL, vwArr_nl (σ := []) (M := [Blk.arx T 3 Q.length (Q.flatMap pD)]) (i := 0) rfl (fl_nl Q), pos])
theorem rput_f (P : List Par) (L : Nat) (p : Par) : DFun Try.prog 17 [nA P L, .agg (pD p)] [] (nA (putP P p) (putL P L)) [] := by
  unfold putP putL
  by_cases h : P.length < 64
  · rw [if_pos h, if_pos h]; exact net_frzA (rput_o P L p h)
  · rw [if_neg h, if_neg h]
    by_cases h2 : L < 4611686018427387904
    · rw [if_pos h2]; exact rput_full P L p h h2
    · rw [if_neg h2]; exact rput_max P L p h h2

set_option maxRecDepth 4000 in
set_option maxHeartbeats 1000000 in
theorem own_d (P : List Par) (L : Nat) : DFun Try.prog 8 [.agg [.slm 3 (P).length ((P).flatMap pD), .val (.int .u64 (L : Int))]] [] (.agg [.slm 3 (fewP P).length ((fewP P).flatMap pD), .val (.int .u64 (L : Int))]) [] := by
  refine dcalls_go (N := 9) 0 (by kernel_rfl) Try.func8 rfl rfl rfl (by simp only [fr0, Nat.zero_add, Nat.reduceAdd]; exact rfl) rfl fun s0 hs0 => ?_
  refine dwp_seq ?_
  refine dwp_holes 2 (by simp only [holes, List.cons_append, List.nil_append]; exact rfl) ?_
  refine dwp_region ?_
  refine walk_w rfl rfl rfl (op_boxam 0 rfl (ev1 rfl) rfl) (by simp only [upd, List.set_cons_zero, List.set_cons_succ]; exact rfl) ?_
  refine walk_w rfl rfl rfl (op_alloc 1 rfl zr25 rfl) (by simp only [upd, List.set_cons_zero, List.set_cons_succ]; exact rfl) ?_
  refine walk_nil ?_
  refine dwp_seq ?_
  refine dwp_draw [([], []), ([0], []), ([], []), ([], []), ([0], []), ([], []), ([1], [1])] mixed (by kernel_rfl) ?_
  refine lex_r rfl rfl (op_fa rfl fo25_0 (ev1 rfl)) ?_
  refine lex_r rfl rfl (op_ldm rfl tb22 (ev1 rfl) rfl rfl) ?_
  refine lex_r rfl rfl (dop_call [] [] [] rfl (ev1 rfl) (ec (ev1 rfl) en) rfl rfl (few_f P) rfl rfl rfl rfl rfl rfl) ?_
  refine lex_r rfl rfl (op_fa rfl fo25_1 (ev1 rfl)) ?_
  refine lex_r rfl rfl (op_ldm rfl tb23 (ev1 rfl) rfl rfl) ?_
  refine lex_r rfl rfl (op_bldD (ps := [(0, .tmp 5), (1, .tmp 7)]) rfl fl25 zr25 (ec (ev1 rfl) (ec (ev1 rfl) en)) rfl rfl rfl) ?_
  refine lex_s rfl rfl (op_stam rfl tb25 (ev1 rfl) (ev1 rfl) rfl rfl rfl rfl) rfl (by simp only [upd, List.set_cons_zero, List.set_cons_succ]; exact rfl) ?_
  refine lex_nil ?_
  refine dwp_ret ?_
  refine kend0 (rs1 rfl (rv_mw tb25 rfl rfl rfl)) rfl ?_
  rfl

set_option maxRecDepth 4000 in
set_option maxHeartbeats 1000000 in
theorem First_noN (P : List Par) (L : Nat) (to : Int) (hN : netB P (L : Int) = false) : DFun Try.prog 15 [.agg [.slm 3 (P).length ((P).flatMap pD), .val (.int .u64 (L : Int))], .val (.int .i64 to)] [] (.tup [.val (.int .i64 0), .val (.bool false)]) [] := by
  refine dcalls_go (N := 24) 0 (by kernel_rfl) Try.func15 rfl rfl rfl (by simp only [fr0, Nat.zero_add, Nat.reduceAdd]; exact rfl) rfl fun s0 hs0 => ?_
  refine dwp_seq ?_
  refine dwp_holes 4 (by simp only [holes, List.cons_append, List.nil_append]; exact rfl) ?_
  refine dwp_region ?_
  refine walk_w rfl rfl rfl (op_boxam 0 rfl (ev1 rfl) rfl) (by simp only [upd, List.set_cons_zero, List.set_cons_succ]; exact rfl) ?_
  refine walk_w rfl rfl rfl (op_boxi 1 rfl (ev1 rfl) rfl) (by simp only [upd, List.set_cons_zero, List.set_cons_succ]; exact rfl) ?_
  refine walk_w rfl rfl rfl (op_alloc 2 rfl zr3 rfl) (by simp only [upd, List.set_cons_zero, List.set_cons_succ]; exact rfl) ?_
  refine walk_w rfl rfl rfl (op_alloc 3 rfl zr4 rfl) (by simp only [upd, List.set_cons_zero, List.set_cons_succ]; exact rfl) ?_
  refine walk_nil ?_
  refine dwp_scope ?_
  refine dwp_seq ?_
  refine dwp_seq ?_
  refine dwp_region ?_
  refine walk_r rfl rfl rfl (op_ldmw rfl tb25 (ev1 rfl) rfl rfl) ?_
  refine walk_r rfl rfl rfl (dop_call [] [] [] rfl (ev1 rfl) (ec (ev1 rfl) en) rfl rfl (check_no P _ hN) rfl rfl rfl rfl rfl rfl) ?_
  refine walk_r rfl rfl rfl (op_neq rfl (ev1 rfl) (ev1 rfl)) ?_
  refine walk_nil ?_
  refine dwp_if_t rfl (rfl) ?_
  refine dwp_seq ?_
  refine dwp_region ?_
  refine walk_s rfl rfl (op_stwi rfl tb3 (ev1 rfl) (ev1 rfl) rfl) (by simp only [upd, List.set_cons_zero, List.set_cons_succ]; exact rfl) ?_
  refine walk_s rfl rfl (op_stwb rfl tb4 (ev1 rfl) (ev1 rfl) rfl) (by simp only [upd, List.set_cons_zero, List.set_cons_succ]; exact rfl) ?_
  refine walk_nil ?_
  refine dwp_ret ?_
  refine kend0 (rs2 rfl (rv_1 tb3 rfl rfl rfl) (rv_1 tb4 rfl rfl rfl)) rfl ?_
  rfl

set_option maxRecDepth 4000 in
set_option maxHeartbeats 1000000 in
theorem spoil_0 : DFun Try.prog 19 [.val (.agg #[.slice none 0 0, .int .u64 0])] [] (.tup []) [] := by
  refine dcalls_go (N := 27) 0 (by kernel_rfl) Try.func19 rfl rfl rfl (by simp only [fr0, Nat.zero_add, Nat.reduceAdd]; exact rfl) rfl fun s0 hs0 => ?_
  refine dwp_seq ?_
  refine dwp_holes 1 (by simp only [holes, List.cons_append, List.nil_append]; exact rfl) ?_
  refine dwp_region ?_
  refine walk_w rfl rfl rfl (op_boxa 0 rfl (ev1 rfl) rfl) (by simp only [upd, List.set_cons_zero, List.set_cons_succ]; exact rfl) ?_
  refine walk_nil ?_
  refine dwp_seq ?_
  refine dwp_region ?_
  refine walk_r rfl rfl rfl (op_fa rfl fo25_0 (ev1 rfl)) ?_
  refine walk_r rfl rfl rfl (op_ldo rfl tb22 (ev1 rfl) rfl rfl) ?_
  refine walk_r rfl rfl rfl (op_len rfl sl22 (evnil 3 (ev1 rfl))) ?_
  refine walk_r rfl rfl rfl (op_move (.inl rfl) (ev1 rfl)) ?_
  refine walk_nil ?_
  refine dwp_block ?_
  refine dwp_dloop (dloop_step ?_)
  refine dwp_seq ?_
  refine dwp_region ?_
  refine walk_r rfl rfl rfl (op_lss rfl (ev1 rfl) (ev1 rfl)) ?_
  refine walk_nil ?_
  refine dwp_seq ?_
  refine dwp_if_f rfl (rfl) ?_
  refine dwp_exit ?_
  refine kend0 (res_none rfl) rfl ?_
  rfl

set_option maxRecDepth 4000 in
set_option maxHeartbeats 1000000 in
theorem spoil_F (P : List Par) (L : Nat) (hb : ∀ p ∈ P, p.b.length ≤ 2000000) (hn : P.length ≤ 2000000) : DFun Try.prog 19 [.agg [.arr 1, .val (.int .u64 (L : Int))]] [.fam (famP (P)), .arx 38 3 (P).length ((P).zipIdx.flatMap (pF 0))] (.tup []) [.fam (famP (P.map incP)), .arx 38 3 (P).length ((P).zipIdx.flatMap (pF 0))] := by
  refine dcalls_go (N := 27) 2 (by kernel_rfl) Try.func19 rfl rfl rfl (by simp only [fr0, Nat.zero_add, Nat.reduceAdd]; exact rfl) rfl fun s0 hs0 => ?_
  refine dwp_seq ?_
  refine dwp_holes 1 (by simp only [holes, List.cons_append, List.nil_append]; exact rfl) ?_
  refine dwp_region ?_
  refine walk_w rfl rfl rfl (op_boxam 2 rfl (ev1 rfl) rfl) (by simp only [upd, List.set_cons_zero, List.set_cons_succ]; exact rfl) ?_
  refine walk_nil ?_
  refine dwp_seq ?_
  refine dwp_region ?_
  refine walk_r rfl rfl rfl (op_fa rfl fo25_0 (ev1 rfl)) ?_
  refine walk_r rfl rfl rfl (op_ldm rfl tb22 (ev1 rfl) rfl rfl) ?_
  refine walk_r rfl rfl rfl (op_lenx rfl sl22 (ev1 rfl) rfl) ?_
  refine walk_r rfl rfl rfl (op_move (.inl rfl) (ev1 rfl)) ?_
  refine walk_nil ?_
  refine dwp_block ?_
  refine dwp_loopS ⟨hs0, rfl⟩ (α := Nat) (fun k => [(8, .val (.int .i64 (k : Int)))]) [(6, _), (7, _)] (fun k => [(0, .fam (famP (incK P k)))]) [.hole, _, _] (fun k => k ≤ P.length) (fun k => P.length - k) 0 [0, 1, 2] (by simp) rfl ⟨rfl, rfl, trivial⟩ ⟨rfl, trivial⟩ ⟨by rw [incK_0]; rfl, arxs_fits rfl rfl (fun _ => rfl), rfl, trivial⟩ ?_
  intro k hx
  simp only [upd, List.set_cons_zero, List.set_cons_succ, List.cons_append, List.nil_append]
  have hk := hx
  refine dwp_seq ?_
  refine dwp_region ?_
  refine walk_r rfl rfl rfl (op_lss rfl (ev1 rfl) (ev1 rfl)) ?_
  refine walk_nil ?_
  refine dwp_seq ?_
  refine dwp_cond rfl (fun c1 => ?_) (fun c1 => ?_)
  · try simp only [decide_eq_true_eq, decide_eq_false_iff_not, beq_iff_eq, bne_iff_ne, beq_eq_false_iff_ne, bne_eq_false_iff_eq, Bool.not_eq_true', Bool.not_eq_false', Bool.and_eq_true, Bool.or_eq_true, Bool.or_eq_false_iff, ne_eq, Decidable.not_not, Int.not_lt, Int.not_le] at c1
    refine dwp_skip ?_
    refine dwp_seq ?_
    refine dwp_block ?_
    refine dwp_seq ?_
    have hkl : k < P.length := by omega
    have hbl := hb _ (List.getElem_mem hkl)
    refine dwp_holes 1 (by simp only [holes, List.cons_append, List.nil_append]; exact rfl) ?_
    refine dwp_region ?_
    refine walk_r rfl rfl rfl (op_ixx (k) rfl sl22 (ev1 rfl) (ev1 rfl) rfl (fun _ => rfl) (fun _ => by omega)) ?_
    refine walk_r rfl rfl rfl (op_ldfx k hkl rfl tb38 (ev1 rfl) rfl) ?_
    refine walk_w rfl rfl rfl (op_alloc 3 rfl zr38 rfl) (by simp only [upd, List.set_cons_zero, List.set_cons_succ]; exact rfl) ?_
    refine walk_s rfl rfl (op_stam rfl tb38 (ev1 rfl) (ev1 rfl) rfl rfl rfl rfl) (by simp only [upd, List.set_cons_zero, List.set_cons_succ]; exact rfl) ?_
    refine walk_nil ?_
    refine dwp_seq ?_
    refine dwp_region ?_
    refine walk_r rfl rfl rfl (op_fa rfl fo38_1 (ev1 rfl)) ?_
    refine walk_r rfl rfl rfl (op_ldm rfl tb36 (ev1 rfl) rfl rfl) ?_
    refine walk_r rfl rfl rfl (op_lenf rfl sl36 (ev1 rfl) rfl (famK_at0 hkl)) ?_
    refine walk_r rfl rfl rfl (op_move (.inl rfl) (ev1 rfl)) ?_
    refine walk_nil ?_
    refine dwp_block ?_
    refine dwp_loopS ⟨hs0, rfl⟩ (α := Nat) (fun j => [(15, .val (.int .i64 (j : Int)))]) [(3, _), (6, _), (7, _), (8, _), (14, _)] (fun j => [(0, .fam (famP ((incK P k).set k (parP P[k] j))))]) [.hole, _, _, _] (fun j => j ≤ P[k].b.length) (fun j => P[k].b.length - j) 0 [0, 1, 2, 3] (by simp) rfl ⟨rfl, rfl, rfl, rfl, rfl, trivial⟩ ⟨rfl, trivial⟩ ⟨by rw [famK_0 hkl]; rfl, arxs_fits rfl rfl (fun _ => rfl), rfl, rfl, trivial⟩ ?_
    intro j hx
    simp only [upd, List.set_cons_zero, List.set_cons_succ, List.cons_append, List.nil_append]
    have hj := hx
    refine dwp_seq ?_
    refine dwp_region ?_
    refine walk_r rfl rfl rfl (op_lss rfl (ev1 rfl) (ev1 rfl)) ?_
    refine walk_nil ?_
    refine dwp_seq ?_
    refine dwp_cond rfl (fun c2 => ?_) (fun c2 => ?_)
    · try simp only [decide_eq_true_eq, decide_eq_false_iff_not, beq_iff_eq, bne_iff_ne, beq_eq_false_iff_ne, bne_eq_false_iff_eq, Bool.not_eq_true', Bool.not_eq_false', Bool.and_eq_true, Bool.or_eq_true, Bool.or_eq_false_iff, ne_eq, Decidable.not_not, Int.not_lt, Int.not_le] at c2
      refine dwp_skip ?_
      refine dwp_seq ?_
      refine dwp_block ?_
      refine dwp_seq ?_
      have hjl : j < P[k].b.length := by omega
      refine dwp_region ?_
      refine walk_r rfl rfl rfl (op_move (.inl rfl) (ev1 rfl)) ?_
      refine walk_r rfl rfl rfl (op_move (.inr rfl) (ev1 rfl)) ?_
      refine walk_nil ?_
      refine dwp_region ?_
      refine walk_r rfl rfl rfl (op_fa rfl fo38_1 (ev1 rfl)) ?_
      refine walk_r rfl rfl rfl (op_ldm rfl tb36 (ev1 rfl) rfl rfl) ?_
      refine walk_r rfl rfl rfl (op_move (.inl rfl) (ev1 rfl)) ?_
      refine walk_r rfl rfl rfl (op_ixf (j) rfl sl36 (ev1 rfl) (ev1 rfl) rfl (famK_at hkl) (fun _ => rfl) (fun _ => by rw [parP_len]; exact hjl)) ?_
      refine walk_r rfl rfl rfl ((op_ldfe rfl tb5 (ev1 rfl) rfl (famK_at hkl) (fun _ => rfl) (by rw [parP_len]; exact hjl) (by rw [parP_at hjl]; rfl) : DOp _ _ _ _ _ _ (.val (.int .u8 (P[k].b[j] : Int))) _)) ?_
      refine walk_r rfl rfl rfl ((by rw [← wrap1]; exact op_add rfl (ev1 rfl) (ev1 rfl) : DOp _ _ _ _ _ _ (.val (.int .u8 (((P[k].b[j] + 1) % 256 : Nat) : Int))) _)) ?_
      refine walk_r rfl rfl rfl (op_ixf (j) rfl sl36 (ev1 rfl) (ev1 rfl) rfl (famK_at hkl) (fun _ => rfl) (fun _ => by rw [parP_len]; exact hjl)) ?_
      refine walk_s rfl rfl (op_stfe ((P[k].b[j] + 1) % 256) rfl tb5 (ev1 rfl) (ev1 rfl) rfl (famK_at hkl) rfl (fun _ => rfl) (by rw [parP_len]; exact hjl) rfl) (by simp only [upd, List.set_cons_zero, List.set_cons_succ]; exact rfl) ?_
      refine walk_nil ?_
      refine dwp_region ?_
      refine walk_r rfl rfl rfl (op_add' rfl (ev1 rfl) (ev1 rfl) (fun _ => IntWalk.i64_in _ (by omega))) ?_
      refine walk_r rfl rfl rfl (op_move (.inl rfl) (ev1 rfl)) ?_
      refine walk_nil ?_
      refine ⟨j + 1, [0, 1, 2, 3], by omega, by simp only []; omega, rfl, ⟨rfl, rfl, rfl, rfl, rfl, rfl, trivial⟩, ⟨congrArg (fun b => some (Blk.fam b)) (famK_step hkl hjl), arxs_fits rfl rfl (fun _ => rfl), rfl, rfl, trivial⟩⟩
    · try simp only [decide_eq_true_eq, decide_eq_false_iff_not, beq_iff_eq, bne_iff_ne, beq_eq_false_iff_ne, bne_eq_false_iff_eq, Bool.not_eq_true', Bool.not_eq_false', Bool.and_eq_true, Bool.or_eq_true, Bool.or_eq_false_iff, ne_eq, Decidable.not_not, Int.not_lt, Int.not_le] at c2
      refine dwp_exit ?_
      refine dwp_region ?_
      refine walk_r rfl rfl rfl (op_add' rfl (ev1 rfl) (ev1 rfl) (fun _ => IntWalk.i64_in _ (by omega))) ?_
      refine walk_r rfl rfl rfl (op_move (.inl rfl) (ev1 rfl)) ?_
      refine walk_nil ?_
      refine ⟨k + 1, [0, 1, 2], by omega, by simp only []; omega, rfl, ⟨rfl, rfl, rfl, trivial⟩, ⟨by rw [← famK_end hkl, show P[k].b.length = j by omega]; rfl, arxs_fits rfl rfl (fun _ => rfl), rfl, trivial⟩⟩
  · try simp only [decide_eq_true_eq, decide_eq_false_iff_not, beq_iff_eq, bne_iff_ne, beq_eq_false_iff_ne, bne_eq_false_iff_eq, Bool.not_eq_true', Bool.not_eq_false', Bool.and_eq_true, Bool.or_eq_true, Bool.or_eq_false_iff, ne_eq, Decidable.not_not, Int.not_lt, Int.not_le] at c1
    refine dwp_exit ?_
    obtain rfl : k = P.length := by omega
    rw [incK_all]
    refine kend [0, 1] (res_none rfl) rfl rfl ?_ ⟨?_, ?_, trivial⟩
    rfl
    all_goals first | exact rfl | exact fx_fits rfl rfl rfl

end Go.Proofs.Ytgomklemldldiaa
