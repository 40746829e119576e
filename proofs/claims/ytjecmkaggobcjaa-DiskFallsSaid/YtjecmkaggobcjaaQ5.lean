/- syncing over a family; what is done by each kind; a disk behind one operation; a disk behind an append; a disk behind one operation: Run; falling over a family: settling, tearing from data; falling over a family; disks as data: what operations do to them; what an operation does, by its error; a disk behind operations: Run; What is known of a value, told otherwise: nil slices as rows of nothing, plain structs as lists of cells; what types are, more of it; a disk that falls: Fall; disks behind what is done to them, looked at. No condition. -/
import Derived.Test.YtjecmkaggobcjaaQ4
namespace Go.Proofs.Ytjecmkaggobcjaa
set_option linter.unusedVariables false
set_option linter.unusedSimpArgs false
open Go.RowKit
def cGm (m : Nat) (g : Nat → Nat) (h : Int) (r : D) (dn : Bool) (fu : Int) : List D := [.farr m (g 0), .farr m (g 1), .farr m (g 2), .farr m (g 3), .val (.int .i64 h), r, .val (.bool dn), .val (.int .i64 fu)]
noncomputable def syA : Code := rfA (pth [1, 1, 0, 1, 0] (bodyOf Try.f77))
noncomputable def syB : Code := rfB (pth [1, 1, 0, 1, 0] (bodyOf Try.f77))
set_option maxRecDepth 4000 in
set_option maxHeartbeats 1000000 in
theorem syRound (s : DSt) (dn : Bool) (fu : Int) (nq : Nat) (Q : List (DOpn × Nat)) (at' : Int) (o : DOpn) (k : Nat) (hG : GOk s Q) (hq : (o, k) ∈ Q) (ho : mayW o = true) (hb : (s.f o.fl.toNat).length + o.b.length ≤ 1000000000000) : DRound Try.prog 0 [.val (.int .i64 at'), .agg (oFam 2 o k)] [.lp 19 [(2, .loc 1 0)] #[10, 11] syA syB .ready none, .mix 82 [.loc 3 0], .fam (s).B, .mix 86 (cGm 2 (s).g (s).h (.arr 4) dn fu), .arx 44 3 nq (Q.flatMap (oF 2))] true [.lp 19 [(2, .loc 1 0)] #[10, 11] syA syB .ready none, .mix 82 [.loc 3 0], .fam ((stG s o)).B, .mix 86 (cGm 2 ((stG s o)).g ((stG s o)).h (.arr 4) dn fu), .arx 44 3 nq (Q.flatMap (oF 2))] := by
  refine dround_go 5 rfl rfl (by simp) rfl rfl fun s0 hs0 => ?_
  refine dwp_holes 1 (by simp only [holes, List.cons_append, List.nil_append]; exact rfl) ?_
  refine dwp_region ?_
  refine walk_w rfl rfl rfl (op_alloc 5 rfl zr44 rfl) (by simp only [upd, List.set_cons_zero, List.set_cons_succ]; exact rfl) ?_
  refine walk_s rfl rfl (op_stam rfl tb44 (ev1 rfl) (ev1 rfl) rfl rfl rfl rfl) (by simp only [upd, List.set_cons_zero, List.set_cons_succ]; exact rfl) ?_
  refine walk_nil ?_
  refine ⟨rfl, ?_⟩
  simp only [List.set_cons_zero, List.set_cons_succ]
  refine dwp_block ?_
  refine dwp_region ?_
  refine walk_r rfl rfl rfl (op_ldm rfl tb82 (ev1 rfl) rfl rfl) ?_
  refine walk_r rfl rfl rfl (op_ldmw rfl tb44 (ev1 rfl) rfl rfl) ?_
  refine walk_w rfl rfl rfl (dop_call [2, 3, 4] [] [] rfl (ev1 rfl) (ec (ev1 rfl) (ec (ev1 rfl) en)) rfl (by exact mfits _ _ ⟨rfl, rfl, (by first | exact rfl | exact arx_fits rfl rfl (vwL_flat (fun _ => rfl) _) | exact arxr_fits rfl rfl (nlL_flatR (fun _ => rfl) _) | exact arxg_fits rfl rfl (fun _ => rfl) | exact arxs_fits rfl rfl (fun _ => rfl)), trivial⟩) (settle_d s.B s.f s.g s.h dn fu o k nq Q (hG.file _ (by have := (mayW_in ho).2; omega)) (hG.wait _ hq) (hG.ne _ (by have := (mayW_in ho).2; omega) _ hq) ho hb) rfl rfl rfl (by exact (wrc rfl (wrc rfl (wrc (by first | exact rfl | exact sb_arx (fun _ => rfl) | exact sb_arxr (nlL_flatR (fun _ => rfl) _) | exact sb_arxg (fun _ => rfl) | exact sb_arxs (fun _ => rfl)) rfl)))) rfl rfl) (by simp only [upd, List.set_cons_zero, List.set_cons_succ]; exact rfl) ?_
  refine walk_nil ?_
  refine ⟨by first | rfl | assumption | simp_all, rfl, [0, 1, 2, 3, 4], rfl, ⟨rfl, rfl, rfl, rfl, ox_fits rfl rfl rfl, trivial⟩⟩
set_option maxRecDepth 4000 in
set_option maxHeartbeats 1000000 in
theorem waiting1_d (s : DSt) (dn : Bool) (fu : Int) (Q : List (DOpn × Nat)) (hG : GOk s Q) (hw : ∀ q ∈ Q, mayW q.1 = true) (hlen : Q.length ≤ 10000) (hb : ∀ (k : Nat) (hk : k < Q.length), ((stGs s (Q.take k)).f Q[k].1.fl.toNat).length + Q[k].1.b.length ≤ 1000000000000) : DFun Try.prog 72 [.yld 0, .loc 5 0] [.lp 19 [(2, .loc 1 0)] #[10, 11] syA syB .ready none, .mix 82 [.loc 3 0], .fam s.B, .mix 86 (cGm 2 (s).g (s).h (.arr 4) dn fu), .arx 44 3 Q.length (Q.flatMap (oF 2)), .mix 82 [.loc 3 0]] (.tup []) [.lp 19 [(2, .loc 1 0)] #[10, 11] syA syB .ready none, .mix 82 [.loc 3 0], .fam (stGs s Q).B, .mix 86 (cGm 2 ((stGs s Q)).g ((stGs s Q)).h (.arr 4) dn fu), .arx 44 3 Q.length (Q.flatMap (oF 2)), .mix 82 [.loc 3 0]] := by
  refine dcalls_go (N := 22) 6 (by kernel_rfl) Try.func72 rfl rfl rfl (by simp only [fr0, Nat.zero_add, Nat.reduceAdd]; exact rfl) rfl fun s0 hs0 => ?_
  refine dwp_seq ?_
  refine dwp_region ?_
  refine walk_r rfl rfl rfl (op_ldm rfl tb82 (ev1 rfl) rfl rfl) ?_
  refine walk_r rfl rfl rfl (op_nc rfl (ev1 rfl) (fun s v h => by cases h; exact ⟨_, rfl⟩)) ?_
  refine walk_r rfl rfl rfl (op_fa rfl fo86_0 (ev1 rfl)) ?_
  refine walk_r rfl rfl rfl (op_fa rfl fo26_2 (ev1 rfl)) ?_
  refine walk_r rfl rfl rfl (op_ldm rfl tb24 (ev1 rfl) rfl rfl) ?_
  refine walk_r rfl rfl rfl (op_lenx rfl sl24 (ev1 rfl) rfl) ?_
  refine walk_r rfl rfl rfl (op_move (.inl rfl) (ev1 rfl)) ?_
  refine walk_nil ?_
  refine dwp_block ?_
  refine dwp_loopS ⟨hs0, rfl⟩ (α := Nat) (fun k => [(11, .val (.int .i64 (k : Int)))]) [(0, _), (9, _), (10, _)] (fun k => [(2, .fam (stGs s (Q.take k)).B), (3, .mix 86 (cGm 2 ((stGs s (Q.take k))).g ((stGs s (Q.take k))).h (.arr 4) dn fu))]) [_, _, .hole, .hole, _, _] (fun k => k ≤ Q.length) (fun k => Q.length - k) 0 [0, 1, 2, 3, 4, 5] (by simp) rfl ⟨rfl, rfl, rfl, trivial⟩ ⟨rfl, trivial⟩ ⟨rfl, rfl, rfl, rfl, arxs_fits rfl rfl (fun _ => rfl), rfl, trivial⟩ ?_
  intro k hx
  simp only [upd, List.set_cons_zero, List.set_cons_succ, List.cons_append, List.nil_append]
  have hk := hx
  refine dwp_seq ?_
  refine dwp_region ?_
  refine walk_r rfl rfl rfl (op_lss rfl (ev1 rfl) (ev1 rfl)) ?_
  refine walk_nil ?_
  refine dwp_seq ?_
  refine dwp_cond rfl (fun c1 => ?_) (fun c1 => ?_)
  · try simp only [decide_eq_true_eq, decide_eq_false_iff_not, beq_iff_eq, bne_iff_ne, beq_eq_false_iff_ne, bne_eq_false_iff_eq, Bool.not_eq_true', Bool.not_eq_false', Bool.and_eq_true, Bool.or_eq_true, Bool.or_eq_false_iff, ne_eq, Decidable.not_not, Int.not_lt, Int.not_le] at c1
    refine dwp_skip ?_
    refine dwp_seq ?_
    refine dwp_block ?_
    refine dwp_seq ?_
    have hkl : k < Q.length := by omega
    refine dwp_holes 1 (by simp only [holes, List.cons_append, List.nil_append]; exact rfl) ?_
    refine dwp_region ?_
    refine walk_r rfl rfl rfl (op_move (.inl rfl) (ev1 rfl)) ?_
    refine walk_r rfl rfl rfl (op_ixx (k) rfl sl24 (ev1 rfl) (ev1 rfl) rfl (fun _ => rfl) (fun _ => by omega)) ?_
    refine walk_r rfl rfl rfl (op_ldxr (j := k) rfl tb44 (ev1 rfl) rfl (fun _ => rfl) (by omega)) ?_
    refine walk_w rfl rfl rfl (op_alloc 6 rfl zr44 rfl) (by simp only [upd, List.set_cons_zero, List.set_cons_succ]; exact rfl) ?_
    refine walk_r rfl rfl rfl (op_move (.inr rfl) (ev1 rfl)) ?_
    refine walk_s rfl rfl (op_stam rfl tb44 (ev1 rfl) (ev1 rfl) rfl rfl rfl rfl) (by simp only [upd, List.set_cons_zero, List.set_cons_succ]; exact rfl) ?_
    refine walk_nil ?_
    refine dwp_seq ?_
    refine dwp_region ?_
    refine walk_r rfl rfl rfl (op_move (.inl rfl) (ev1 rfl)) ?_
    refine walk_r rfl rfl rfl (op_move (.inl rfl) (ev1 rfl)) ?_
    refine walk_r rfl rfl rfl (op_ldmw rfl tb44 (ev1 rfl) rfl rfl) ?_
    refine walk_w rfl rfl rfl (op_y (i := 0) [0, 1, 2, 3, 4] [] [] rfl (ev1 rfl) (ec (ev1 rfl) (ec (ev1 rfl) en)) rfl rfl (by exact mfits _ _ ⟨rfl, rfl, rfl, rfl, (by first | exact rfl | exact arx_fits rfl rfl (vwL_flat (fun _ => rfl) _) | exact arxg_fits rfl rfl (fun _ => rfl) | exact arxs_fits rfl rfl (fun _ => rfl)), trivial⟩) (syRound (stGs s (Q.take k)) dn fu Q.length Q (k : Int) Q[k].1 Q[k].2 (hG.steps _ fun q hq => hw q (List.mem_of_mem_take hq)) (List.getElem_mem hkl) (hw _ (List.getElem_mem hkl)) (hb k hkl)) rfl rfl rfl (by exact (wrc rfl (wrc rfl (wrc rfl (wrc rfl (wrc (by first | exact rfl | exact sb_arx (fun _ => rfl) | exact sb_arxr (nlL_flatR (fun _ => rfl) _) | exact sb_arxg (fun _ => rfl) | exact sb_arxs (fun _ => rfl)) rfl)))))) rfl) (by simp only [upd, List.set_cons_zero, List.set_cons_succ]; exact rfl) ?_
    refine walk_r rfl rfl rfl (op_not rfl (ev1 rfl)) ?_
    refine walk_nil ?_
    refine dwp_if_f rfl (rfl) ?_
    refine dwp_skip ?_
    refine dwp_region ?_
    refine walk_r rfl rfl rfl (op_add' rfl (ev1 rfl) (ev1 rfl) (fun _ => IntWalk.i64_in _ (by omega))) ?_
    refine walk_r rfl rfl rfl (op_move (.inl rfl) (ev1 rfl)) ?_
    refine walk_nil ?_
    refine ⟨k + 1, [0, 1, 2, 3, 4, 5], by omega, by simp only []; omega, rfl, ⟨rfl, rfl, rfl, rfl, trivial⟩, ⟨rfl, rfl, by rw [stGs_succ hkl]; rfl, by rw [stGs_succ hkl]; rfl, ox_fits rfl rfl rfl, rfl, trivial⟩⟩
  · try simp only [decide_eq_true_eq, decide_eq_false_iff_not, beq_iff_eq, bne_iff_ne, beq_eq_false_iff_ne, bne_eq_false_iff_eq, Bool.not_eq_true', Bool.not_eq_false', Bool.and_eq_true, Bool.or_eq_true, Bool.or_eq_false_iff, ne_eq, Decidable.not_not, Int.not_lt, Int.not_le] at c1
    refine dwp_exit ?_
    obtain rfl : k = Q.length := by omega
    rw [List.take_length]
    refine kend [0, 1, 2, 3, 4, 5] (res_none rfl) rfl rfl ?_ ⟨?_, ?_, ?_, ?_, ?_, ?_, trivial⟩
    rfl
    all_goals first | exact rfl | exact ox_fits rfl rfl rfl
set_option maxRecDepth 4000 in
set_option maxHeartbeats 1000000 in
theorem waiting_d (s : DSt) (dn : Bool) (fu : Int) (Q : List (DOpn × Nat)) : DFun Try.prog 60 [.loc 1 0] [.fam (s).B, .mix 86 (cG ((s).g) ((s).h) (.arr 2) dn fu), .arx 44 3 Q.length (Q.flatMap (oF 0))] (.fn (.func 72) [] [.loc 3 0]) [.fam (s).B, .mix 86 (cG ((s).g) ((s).h) (.arr 2) dn fu), .arx 44 3 Q.length (Q.flatMap (oF 0)), .mix 82 [.loc 1 0]] := by
  refine dcalls_go (N := 4) 3 (by kernel_rfl) Try.func60 rfl rfl rfl (by simp only [fr0, Nat.zero_add, Nat.reduceAdd]; exact rfl) rfl fun s0 hs0 => ?_
  refine dwp_seq ?_
  refine dwp_holes 1 (by simp only [holes, List.cons_append, List.nil_append]; exact rfl) ?_
  refine dwp_region ?_
  refine walk_w rfl rfl rfl (op_boxm 3 rfl (ev1 rfl) (fun s v h => by cases h <;> rfl) rfl) (by simp only [upd, List.set_cons_zero, List.set_cons_succ]; exact rfl) ?_
  refine walk_r rfl rfl rfl (op_move (.inr rfl) (ev1 rfl)) ?_
  refine walk_nil ?_
  refine dwp_seq ?_
  refine dwp_region ?_
  refine walk_r rfl rfl rfl (op_mkf rfl en (ec (ev1 rfl) en)) ?_
  refine walk_r rfl rfl rfl (op_move (.inr rfl) (ev1 rfl)) ?_
  refine walk_nil ?_
  refine dwp_ret ?_
  refine kend [0, 1, 2, 3] (rs1 rfl (rv_t rfl)) rfl rfl ?_ ⟨?_, ?_, ?_, ?_, trivial⟩
  rfl
  all_goals first | exact rfl | exact ox_fits rfl rfl rfl
set_option maxRecDepth 4000 in
set_option maxHeartbeats 1000000 in
theorem sync_down (s : DSt) (dn : Bool) (fu : Int) (o : DOpn) (Q : List (DOpn × Nat)) (hf1 : fu = 1) : DPan Try.prog 77 [.loc 1 0, .agg (oD o)] [.fam (s).B, .mix 86 (cG ((s).g) ((s).h) (.arr 2) dn fu), .arx 44 3 Q.length (Q.flatMap (oF 0))] (.ifc 93 (.val (.agg #[.int .i64 321]))) [.fam (s).B, .mix 86 (cG ((s).g) ((s).h) (.arr 2) true 0), .arx 44 3 Q.length (Q.flatMap (oF 0))] := by
  refine dcalls_go (N := 19) 3 (by kernel_rfl) Try.func77 rfl rfl rfl (by simp only [fr0, Nat.zero_add, Nat.reduceAdd]; exact rfl) rfl fun s0 hs0 => ?_
  refine dwp_seq ?_
  refine dwp_holes 2 (by simp only [holes, List.cons_append, List.nil_append]; exact rfl) ?_
  refine dwp_region ?_
  refine walk_w rfl rfl rfl (op_boxm 3 rfl (ev1 rfl) (fun s v h => by cases h <;> rfl) rfl) (by simp only [upd, List.set_cons_zero, List.set_cons_succ]; exact rfl) ?_
  refine walk_w rfl rfl rfl (op_boxam 4 rfl (ev1 rfl) rfl) (by simp only [upd, List.set_cons_zero, List.set_cons_succ]; exact rfl) ?_
  refine walk_nil ?_
  refine dwp_seq ?_
  refine dwp_region ?_
  refine walk_r rfl rfl rfl (op_ldm rfl tb82 (ev1 rfl) rfl rfl) ?_
  refine walk_p rfl (dop_callP [0, 1, 2] [] [] rfl (ev1 rfl) (ec (ev1 rfl) en) rfl (by exact mfits _ _ ⟨rfl, rfl, (by first | exact rfl | exact arx_fits rfl rfl (vwL_flat (fun _ => rfl) _) | exact arxr_fits rfl rfl (nlL_flatR (fun _ => rfl) _) | exact arxg_fits rfl rfl (fun _ => rfl) | exact arxs_fits rfl rfl (fun _ => rfl)), trivial⟩) (burn_down s.B s.g s.h dn fu Q.length Q hf1) rfl rfl rfl (by exact (wrc rfl (wrc rfl (wrc (by first | exact rfl | exact sb_arx (fun _ => rfl) | exact sb_arxr (nlL_flatR (fun _ => rfl) _) | exact sb_arxg (fun _ => rfl) | exact sb_arxs (fun _ => rfl)) rfl)))) rfl rfl) rfl ?_
  refine kpan [0, 1, 2] rfl rfl ?_ ⟨?_, ?_, ?_, trivial⟩
  rfl
  all_goals first | exact rfl | exact mixl_fits (m := 3) rfl rfl (cG_lt (by decide) rfl) | exact ox_fits rfl rfl rfl
set_option maxRecDepth 4000 in
set_option maxHeartbeats 1000000 in
theorem sync_ok (s : DSt) (dn : Bool) (fu : Int) (o : DOpn) (Q : List (DOpn × Nat)) (hf1 : fu ≠ 1) (hf0 : 0 ≤ fu ∧ fu ≤ 4096) (hG : GOk s Q) (hw : ∀ q ∈ Q, mayW q.1 = true) (hlen : Q.length ≤ 10000) (hb : ∀ (k : Nat) (hk : k < Q.length), ((stGs s (Q.take k)).f Q[k].1.fl.toNat).length + Q[k].1.b.length ≤ 1000000000000) : DFun Try.prog 77 [.loc 1 0, .agg (oD o)] [.fam (s).B, .mix 86 (cG ((s).g) ((s).h) (.arr 2) dn fu), .arx 44 3 Q.length (Q.flatMap (oF 0))] (.tup []) [.fam ((stGs s Q)).B, .mix 86 (cG (((stGs s Q)).g) (((stGs s Q)).h) (.val (.slice none 0 0)) dn (fuB fu)), .arx 44 3 Q.length (Q.flatMap (oF 0))] := by
  refine dcalls_go (N := 19) 3 (by kernel_rfl) Try.func77 rfl rfl rfl (by simp only [fr0, Nat.zero_add, Nat.reduceAdd]; exact rfl) rfl fun s0 hs0 => ?_
  refine dwp_seq ?_
  refine dwp_holes 2 (by simp only [holes, List.cons_append, List.nil_append]; exact rfl) ?_
  refine dwp_region ?_
  refine walk_w rfl rfl rfl (op_boxm 3 rfl (ev1 rfl) (fun s v h => by cases h <;> rfl) rfl) (by simp only [upd, List.set_cons_zero, List.set_cons_succ]; exact rfl) ?_
  refine walk_w rfl rfl rfl (op_boxam 4 rfl (ev1 rfl) rfl) (by simp only [upd, List.set_cons_zero, List.set_cons_succ]; exact rfl) ?_
  refine walk_nil ?_
  refine dwp_seq ?_
  refine dwp_region ?_
  refine walk_r rfl rfl rfl (op_ldm rfl tb82 (ev1 rfl) rfl rfl) ?_
  refine walk_w rfl rfl rfl (dop_call [0, 1, 2] [] [] rfl (ev1 rfl) (ec (ev1 rfl) en) rfl (by exact mfits _ _ ⟨rfl, rfl, (by first | exact rfl | exact arx_fits rfl rfl (vwL_flat (fun _ => rfl) _) | exact arxr_fits rfl rfl (nlL_flatR (fun _ => rfl) _) | exact arxg_fits rfl rfl (fun _ => rfl) | exact arxs_fits rfl rfl (fun _ => rfl)), trivial⟩) (burn_ok s.B s.g s.h dn fu Q.length Q hf1 hf0) rfl rfl rfl (by exact (wrc rfl (wrc rfl (wrc (by first | exact rfl | exact sb_arx (fun _ => rfl) | exact sb_arxr (nlL_flatR (fun _ => rfl) _) | exact sb_arxg (fun _ => rfl) | exact sb_arxs (fun _ => rfl)) rfl)))) rfl rfl) (by simp only [upd, List.set_cons_zero, List.set_cons_succ]; exact rfl) ?_
  refine walk_nil ?_
  refine dwp_seq ?_
  refine dwp_seq ?_
  refine dwp_holes 1 (by simp only [holes, List.cons_append, List.nil_append]; exact rfl) ?_
  refine dwp_region ?_
  refine walk_r rfl rfl rfl (op_ldm rfl tb82 (ev1 rfl) rfl rfl) ?_
  refine walk_w rfl rfl rfl (dop_call [0, 1, 2] [] [5] rfl (ev1 rfl) (ec (ev1 rfl) en) rfl (by exact mfits _ _ ⟨rfl, rfl, (by first | exact rfl | exact arx_fits rfl rfl (vwL_flat (fun _ => rfl) _) | exact arxr_fits rfl rfl (nlL_flatR (fun _ => rfl) _) | exact arxg_fits rfl rfl (fun _ => rfl) | exact arxs_fits rfl rfl (fun _ => rfl)), trivial⟩) (waiting_d s dn (fuB fu) Q) rfl rfl rfl (by exact (wrc rfl (wrc rfl (wrc (by first | exact rfl | exact sb_arx (fun _ => rfl) | exact sb_arxr (nlL_flatR (fun _ => rfl) _) | exact sb_arxg (fun _ => rfl) | exact sb_arxs (fun _ => rfl)) (wrc rfl rfl))))) rfl rfl) (by simp only [upd, List.set_cons_zero, List.set_cons_succ]; exact rfl) ?_
  refine walk_nil ?_
  refine dwp_block ?_
  refine dwp_hole ?_
  simp only [List.cons_append, List.nil_append]
  refine dwp_rf (FL := [(2, _)]) (st := .ready) (pe := none) [6, 3, 0, 1, 2, 5] [] [] 6 rfl rfl (ev1 rfl) rfl (subF_lk ⟨rfl, trivial⟩) rfl rfl (by exact mfits _ _ ⟨rfl, rfl, rfl, rfl, (by first | exact rfl | exact arx_fits rfl rfl (vwL_flat (fun _ => rfl) _) | exact arxg_fits rfl rfl (fun _ => rfl) | exact arxs_fits rfl rfl (fun _ => rfl)), rfl, trivial⟩) (waiting1_d s dn (fuB fu) Q hG hw hlen hb) rfl rfl rfl (by exact (wrc rfl (wrc rfl (wrc rfl (wrc rfl (wrc (by first | exact rfl | exact sb_arx (fun _ => rfl) | exact sb_arxr (nlL_flatR (fun _ => rfl) _) | exact sb_arxg (fun _ => rfl) | exact sb_arxs (fun _ => rfl)) (wrc rfl rfl))))))) rfl rfl rfl (by simp) (fun e => ?_) (fun c e => ?_)
  · simp only [upd, List.set_cons_zero, List.set_cons_succ]
    refine dwp_region ?_
    refine walk_r rfl rfl rfl (op_ldm rfl tb82 (ev1 rfl) rfl rfl) ?_
    refine walk_r rfl rfl rfl (op_nc rfl (ev1 rfl) (fun s v h => by cases h; exact ⟨_, rfl⟩)) ?_
    refine walk_r rfl rfl rfl (op_fa rfl fo86_0 (ev1 rfl)) ?_
    refine walk_r rfl rfl rfl (op_fa rfl fo26_2 (ev1 rfl)) ?_
    refine walk_s rfl rfl (op_stm rfl tb24 (ev1 rfl) (ev1 rfl) (fun s v h => by cases h <;> exact ⟨rfl, rfl⟩) rfl (by first | decide | exact Nat.le_of_ble_eq_true rfl | simp)) (by simp only [upd, List.set_cons_zero, List.set_cons_succ]; exact rfl) ?_
    refine walk_nil ?_
    refine kend [0, 1, 2] (res_none rfl) rfl rfl ?_ ⟨?_, ?_, ?_, trivial⟩
    rfl
    all_goals first | exact rfl | exact mixl_fits (m := 3) rfl rfl (cG_lt (by decide) rfl) | exact ox_fits rfl rfl rfl
  · cases e
end Go.Proofs.Ytjecmkaggobcjaa

namespace Go.Proofs.Ytjecmkaggobcjaa
set_option linter.unusedVariables false
set_option linter.unusedSimpArgs false
open Go.RowKit
set_option maxRecDepth 4000 in
set_option maxHeartbeats 1000000 in
theorem does_d : DFun Try.prog 71 [] [] (.agg [.val .nilFunc, .fn (.func 75) [] [], .fn (.func 76) [] [], .fn (.func 76) [] [], .fn (.func 77) [] []]) [] := by
  refine dcalls_go (N := 2) 0 (by kernel_rfl) Try.func71 rfl rfl rfl (by simp only [fr0, Nat.zero_add, Nat.reduceAdd]; exact rfl) rfl fun s0 hs0 => ?_
  refine dwp_seq ?_
  refine dwp_holes 1 (by simp only [holes, List.cons_append, List.nil_append]; exact rfl) ?_
  refine dwp_region ?_
  refine walk_w rfl rfl rfl (op_alloc 0 rfl zr97 rfl) (by simp only [upd, List.set_cons_zero, List.set_cons_succ]; exact rfl) ?_
  refine walk_nil ?_
  refine dwp_seq ?_
  refine dwp_region ?_
  refine walk_r rfl rfl rfl (op_bldaD (ps := [(1, .func 75), (2, .func 76), (3, .func 76), (4, .func 77)]) rfl ar97 zr97 (ec (ev1 rfl) (ec (ev1 rfl) (ec (ev1 rfl) (ec (ev1 rfl) en)))) rfl rfl rfl rfl) ?_
  refine walk_s rfl rfl (op_stam rfl tb97 (ev1 rfl) (ev1 rfl) rfl rfl rfl rfl) (by simp only [upd, List.set_cons_zero, List.set_cons_succ]; exact rfl) ?_
  refine walk_nil ?_
  refine dwp_ret ?_
  refine kend0 (rs1 rfl (rv_mw tb97 rfl rfl rfl)) rfl ?_
  rfl
set_option maxRecDepth 4000 in
set_option maxHeartbeats 1000000 in
theorem tryf_idle (e : Int) : DDef Try.prog 69 [.loc 0 0] [.flat 31 [.int .i64 e]] none none [.flat 31 [.int .i64 0]] := by
  refine ddef_go1 (dr := .tup []) (t := 1) (N := 3) 1 (by kernel_rfl) Try.func69 rfl rfl rfl (by simp only [fr0, Nat.zero_add, Nat.reduceAdd]; exact rfl) rfl rfl rfl rfl rfl fun s0 hs0 => ?_
  refine walk_r rfl rfl rfl (dop_call [] [] [] rfl (ev1 rfl) (ec (ev1 rfl) en) rfl rfl (told_no) rfl rfl rfl rfl rfl rfl) ?_
  refine walk_s rfl rfl (op_stwi rfl tb31 (ev1 rfl) (ev1 rfl) rfl) (by simp only [upd, List.set_cons_zero, List.set_cons_succ]; exact rfl) ?_
  refine walk_nil ?_
  refine kend [0] (res_none rfl) rfl rfl ?_ ⟨rfl, trivial⟩
  rfl
set_option maxRecDepth 4000 in
set_option maxHeartbeats 1000000 in
theorem tryf_caught (e n : Int) : DDef Try.prog 69 [.loc 0 0] [.flat 31 [.int .i64 e]] (some (.ifc 93 (.val (.agg #[.int .i64 n])))) none [.flat 31 [.int .i64 n]] := by
  refine ddef_go1 (dr := .tup []) (t := 1) (N := 3) 1 (by kernel_rfl) Try.func69 rfl rfl rfl (by simp only [fr0, Nat.zero_add, Nat.reduceAdd]; exact rfl) rfl rfl rfl rfl rfl fun s0 hs0 => ?_
  refine walk_r rfl rfl rfl (dop_call [] [] [] rfl (ev1 rfl) (ec (ev1 rfl) en) rfl rfl (told_w n) rfl rfl rfl rfl rfl rfl) ?_
  refine walk_s rfl rfl (op_stwi rfl tb31 (ev1 rfl) (ev1 rfl) rfl) (by simp only [upd, List.set_cons_zero, List.set_cons_succ]; exact rfl) ?_
  refine walk_nil ?_
  refine kend [0] (res_none rfl) rfl rfl ?_ ⟨rfl, trivial⟩
  rfl
set_option maxRecDepth 4000 in
set_option maxHeartbeats 1000000 in
theorem try_arg (s : DSt) (dn : Bool) (fu : Int) (o : DOpn) (Q : List (DOpn × Nat)) (ho : mayO o = false) : DFun Try.prog 57 [.loc 1 0, .agg (oD o)] [.fam (s).B, .mix 86 (cG ((s).g) ((s).h) (.arr 2) dn fu), .arx 44 3 Q.length (Q.flatMap (oF 0))] (.val (.int .i64 2)) [.fam (s).B, .mix 86 (cG ((s).g) ((s).h) (.arr 2) dn fu), .arx 44 3 Q.length (Q.flatMap (oF 0))] := by
  refine dcalls_body (N := 23) 3 (by kernel_rfl) Try.func57 rfl rfl rfl (by simp only [fr0, Nat.zero_add, Nat.reduceAdd]; exact rfl) rfl fun s0 hs0 => ?_
  refine dbody_seq rfl hs0 ?_
  refine dwp_holes 2 (by simp only [holes, List.cons_append, List.nil_append]; exact rfl) ?_
  refine dwp_region ?_
  refine walk_w rfl rfl rfl (op_boxam 3 rfl (ev1 rfl) rfl) (by simp only [upd, List.set_cons_zero, List.set_cons_succ]; exact rfl) ?_
  refine walk_w rfl rfl rfl (op_alloc 4 rfl zr31 rfl) (by simp only [upd, List.set_cons_zero, List.set_cons_succ]; exact rfl) ?_
  refine walk_nil ?_
  refine dbody_defer (l0 := [_]) rfl rfl rfl rfl rfl hs0 ?_
  refine walk_r rfl rfl rfl (op_mkf rfl en (ec (ev1 rfl) en)) ?_
  refine walk_nil ⟨_, _, _, 5, ev1 rfl, Nat.le_trans hs0 (by decide), rfl, ?_⟩
  have hs1 : s0.M.length ≤ 5 := Nat.le_trans hs0 (by decide)
  refine dbody_end rfl hs0 ?_
  refine dwp_seq ?_
  refine dwp_region ?_
  refine walk_r rfl rfl rfl (op_ldmw rfl tb44 (ev1 rfl) rfl rfl) ?_
  refine walk_r rfl rfl rfl (dop_call [] [] [] rfl (ev1 rfl) (ec (ev1 rfl) en) rfl rfl (maybe_d o) rfl rfl rfl rfl rfl rfl) ?_
  refine walk_p rfl (dop_callP [] [] [] rfl (ev1 rfl) (ec (ev1 rfl) (ec (ev1 rfl) en)) rfl rfl (need_no _ _ (ho)) rfl rfl rfl rfl rfl rfl) rfl ?_
  refine kdef (dturn_caught [4] [] rfl rfl rfl (tryf_caught _ _) rfl rfl rfl rfl rfl) ?_
  refine kend [0, 1, 2] (rs1 rfl (rv_1 tb31 rfl rfl rfl)) rfl rfl ?_ ⟨?_, ?_, ?_, trivial⟩
  rfl
  all_goals first | exact rfl | exact mixl_fits (m := 3) rfl rfl (cG_lt (by decide) rfl) | exact ox_fits rfl rfl rfl
set_option maxRecDepth 4000 in
set_option maxHeartbeats 1000000 in
theorem try_dead (s : DSt) (dn : Bool) (fu : Int) (o : DOpn) (Q : List (DOpn × Nat)) (ho : mayO o = true) (hd : dn = true) : DFun Try.prog 57 [.loc 1 0, .agg (oD o)] [.fam (s).B, .mix 86 (cG ((s).g) ((s).h) (.arr 2) dn fu), .arx 44 3 Q.length (Q.flatMap (oF 0))] (.val (.int .i64 321)) [.fam (s).B, .mix 86 (cG ((s).g) ((s).h) (.arr 2) dn fu), .arx 44 3 Q.length (Q.flatMap (oF 0))] := by
  refine dcalls_body (N := 23) 3 (by kernel_rfl) Try.func57 rfl rfl rfl (by simp only [fr0, Nat.zero_add, Nat.reduceAdd]; exact rfl) rfl fun s0 hs0 => ?_
  refine dbody_seq rfl hs0 ?_
  refine dwp_holes 2 (by simp only [holes, List.cons_append, List.nil_append]; exact rfl) ?_
  refine dwp_region ?_
  refine walk_w rfl rfl rfl (op_boxam 3 rfl (ev1 rfl) rfl) (by simp only [upd, List.set_cons_zero, List.set_cons_succ]; exact rfl) ?_
  refine walk_w rfl rfl rfl (op_alloc 4 rfl zr31 rfl) (by simp only [upd, List.set_cons_zero, List.set_cons_succ]; exact rfl) ?_
  refine walk_nil ?_
  refine dbody_defer (l0 := [_]) rfl rfl rfl rfl rfl hs0 ?_
  refine walk_r rfl rfl rfl (op_mkf rfl en (ec (ev1 rfl) en)) ?_
  refine walk_nil ⟨_, _, _, 5, ev1 rfl, Nat.le_trans hs0 (by decide), rfl, ?_⟩
  have hs1 : s0.M.length ≤ 5 := Nat.le_trans hs0 (by decide)
  refine dbody_end rfl hs0 ?_
  refine dwp_seq ?_
  refine dwp_region ?_
  refine walk_r rfl rfl rfl (op_ldmw rfl tb44 (ev1 rfl) rfl rfl) ?_
  refine walk_r rfl rfl rfl (dop_call [] [] [] rfl (ev1 rfl) (ec (ev1 rfl) en) rfl rfl (maybe_d o) rfl rfl rfl rfl rfl rfl) ?_
  refine walk_r rfl rfl rfl (dop_call [] [] [] rfl (ev1 rfl) (ec (ev1 rfl) (ec (ev1 rfl) en)) rfl rfl (need_ok _ _ (ho)) rfl rfl rfl rfl rfl rfl) ?_
  refine walk_nil ?_
  refine dwp_seq ?_
  refine dwp_region ?_
  refine walk_r rfl rfl rfl (op_move (.inl rfl) (ev1 rfl)) ?_
  refine walk_r rfl rfl rfl (op_nc rfl (ev1 rfl) (fun s v h => by cases h; exact ⟨_, rfl⟩)) ?_
  refine walk_r rfl rfl rfl (op_fa rfl fo86_0 (ev1 rfl)) ?_
  refine walk_r rfl rfl rfl (op_fa rfl fo26_3 (ev1 rfl)) ?_
  refine walk_r rfl rfl rfl (op_ldm rfl tb4 (ev1 rfl) rfl rfl) ?_
  refine walk_r rfl rfl rfl (op_not rfl (ev1 rfl)) ?_
  refine walk_p rfl (dop_callP [] [] [] rfl (ev1 rfl) (ec (ev1 rfl) (ec (ev1 rfl) en)) rfl rfl (need_no _ _ (by rw [hd]; rfl)) rfl rfl rfl rfl rfl rfl) rfl ?_
  refine kdef (dturn_caught [4] [] rfl rfl rfl (tryf_caught _ _) rfl rfl rfl rfl rfl) ?_
  refine kend [0, 1, 2] (rs1 rfl (rv_1 tb31 rfl rfl rfl)) rfl rfl ?_ ⟨?_, ?_, ?_, trivial⟩
  rfl
  all_goals first | exact rfl | exact mixl_fits (m := 3) rfl rfl (cG_lt (by decide) rfl) | exact ox_fits rfl rfl rfl
set_option maxRecDepth 4000 in
set_option maxHeartbeats 1000000 in
theorem try_sync_down (s : DSt) (dn : Bool) (fu : Int) (z : Int) (b : List Nat) (Q : List (DOpn × Nat)) (ho : mayO ⟨4, z, b⟩ = true) (hd : dn = false) (hf1 : fu = 1) : DFun Try.prog 57 [.loc 1 0, .agg (oD (⟨4, z, b⟩ : DOpn))] [.fam (s).B, .mix 86 (cG ((s).g) ((s).h) (.arr 2) dn fu), .arx 44 3 Q.length (Q.flatMap (oF 0))] (.val (.int .i64 321)) [.fam (s).B, .mix 86 (cG ((s).g) ((s).h) (.arr 2) true 0), .arx 44 3 Q.length (Q.flatMap (oF 0))] := by
  refine dcalls_body (N := 23) 3 (by kernel_rfl) Try.func57 rfl rfl rfl (by simp only [fr0, Nat.zero_add, Nat.reduceAdd]; exact rfl) rfl fun s0 hs0 => ?_
  refine dbody_seq rfl hs0 ?_
  refine dwp_holes 2 (by simp only [holes, List.cons_append, List.nil_append]; exact rfl) ?_
  refine dwp_region ?_
  refine walk_w rfl rfl rfl (op_boxam 3 rfl (ev1 rfl) rfl) (by simp only [upd, List.set_cons_zero, List.set_cons_succ]; exact rfl) ?_
  refine walk_w rfl rfl rfl (op_alloc 4 rfl zr31 rfl) (by simp only [upd, List.set_cons_zero, List.set_cons_succ]; exact rfl) ?_
  refine walk_nil ?_
  refine dbody_defer (l0 := [_]) rfl rfl rfl rfl rfl hs0 ?_
  refine walk_r rfl rfl rfl (op_mkf rfl en (ec (ev1 rfl) en)) ?_
  refine walk_nil ⟨_, _, _, 5, ev1 rfl, Nat.le_trans hs0 (by decide), rfl, ?_⟩
  have hs1 : s0.M.length ≤ 5 := Nat.le_trans hs0 (by decide)
  refine dbody_end rfl hs0 ?_
  refine dwp_seq ?_
  refine dwp_region ?_
  refine walk_r rfl rfl rfl (op_ldmw rfl tb44 (ev1 rfl) rfl rfl) ?_
  refine walk_r rfl rfl rfl (dop_call [] [] [] rfl (ev1 rfl) (ec (ev1 rfl) en) rfl rfl (maybe_d ⟨4, z, b⟩) rfl rfl rfl rfl rfl rfl) ?_
  refine walk_r rfl rfl rfl (dop_call [] [] [] rfl (ev1 rfl) (ec (ev1 rfl) (ec (ev1 rfl) en)) rfl rfl (need_ok _ _ (ho)) rfl rfl rfl rfl rfl rfl) ?_
  refine walk_nil ?_
  refine dwp_seq ?_
  refine dwp_region ?_
  refine walk_r rfl rfl rfl (op_move (.inl rfl) (ev1 rfl)) ?_
  refine walk_r rfl rfl rfl (op_nc rfl (ev1 rfl) (fun s v h => by cases h; exact ⟨_, rfl⟩)) ?_
  refine walk_r rfl rfl rfl (op_fa rfl fo86_0 (ev1 rfl)) ?_
  refine walk_r rfl rfl rfl (op_fa rfl fo26_3 (ev1 rfl)) ?_
  refine walk_r rfl rfl rfl (op_ldm rfl tb4 (ev1 rfl) rfl rfl) ?_
  refine walk_r rfl rfl rfl (op_not rfl (ev1 rfl)) ?_
  refine walk_r rfl rfl rfl (dop_call [] [] [] rfl (ev1 rfl) (ec (ev1 rfl) (ec (ev1 rfl) en)) rfl rfl (need_ok _ _ (by rw [hd]; rfl)) rfl rfl rfl rfl rfl rfl) ?_
  refine walk_nil ?_
  refine dwp_seq ?_
  refine dwp_drawP 6 [([], []), ([], []), ([3], []), ([], []), ([], []), ([3], [])] mixed (by kernel_rfl) rfl rfl ?_
  refine lex_r rfl rfl (dop_call [] [] [] rfl (ev1 rfl) en rfl rfl (does_d) rfl rfl rfl rfl rfl rfl) ?_
  refine lex_r rfl rfl (op_fa rfl fo44_0 (ev1 rfl)) ?_
  refine lex_r rfl rfl (op_ldm rfl tb3 (ev1 rfl) rfl rfl) ?_
  refine lex_r rfl rfl (op_ixw 4 rfl aw97 (ev1 rfl) (ev1 rfl) (fun _ => rfl) (by decide) rfl) ?_
  refine lex_r rfl rfl (op_move (.inl rfl) (ev1 rfl)) ?_
  refine lex_r rfl rfl (op_ldmw rfl tb44 (ev1 rfl) rfl rfl) ?_
  refine lex_nil ⟨_, _, _, rfl, dop_callP [0, 1, 2] [] [] rfl (ev1 rfl) (ec (ev1 rfl) (ec (ev1 rfl) en)) rfl (by exact mfits _ _ ⟨rfl, rfl, (by first | exact rfl | exact arx_fits rfl rfl (vwL_flat (fun _ => rfl) _) | exact arxr_fits rfl rfl (nlL_flatR (fun _ => rfl) _) | exact arxg_fits rfl rfl (fun _ => rfl) | exact arxs_fits rfl rfl (fun _ => rfl)), trivial⟩) (sync_down s dn fu ⟨4, z, b⟩ Q hf1) rfl rfl rfl (by exact (wrc rfl (wrc rfl (wrc (by first | exact rfl | exact sb_arx (fun _ => rfl) | exact sb_arxr (nlL_flatR (fun _ => rfl) _) | exact sb_arxg (fun _ => rfl) | exact sb_arxs (fun _ => rfl)) rfl)))) rfl rfl, ?_⟩
  refine kdef (dturn_caught [4] [] rfl rfl rfl (tryf_caught _ _) rfl rfl rfl rfl rfl) ?_
  refine kend [0, 1, 2] (rs1 rfl (rv_1 tb31 rfl rfl rfl)) rfl rfl ?_ ⟨?_, ?_, ?_, trivial⟩
  rfl
  all_goals first | exact rfl | exact mixl_fits (m := 3) rfl rfl (cG_lt (by decide) rfl) | exact ox_fits rfl rfl rfl
set_option maxRecDepth 4000 in
set_option maxHeartbeats 1000000 in
theorem try_sync_ok (s : DSt) (dn : Bool) (fu : Int) (z : Int) (b : List Nat) (Q : List (DOpn × Nat)) (ho : mayO ⟨4, z, b⟩ = true) (hd : dn = false) (hf1 : fu ≠ 1) (hf0 : 0 ≤ fu ∧ fu ≤ 4096) (hG : GOk s Q) (hw : ∀ q ∈ Q, mayW q.1 = true) (hlen : Q.length ≤ 10000) (hb : ∀ (k : Nat) (hk : k < Q.length), ((stGs s (Q.take k)).f Q[k].1.fl.toNat).length + Q[k].1.b.length ≤ 1000000000000) : DFun Try.prog 57 [.loc 1 0, .agg (oD (⟨4, z, b⟩ : DOpn))] [.fam (s).B, .mix 86 (cG ((s).g) ((s).h) (.arr 2) dn fu), .arx 44 3 Q.length (Q.flatMap (oF 0))] (.val (.int .i64 0)) [.fam ((stGs s Q)).B, .mix 86 (cG (((stGs s Q)).g) (((stGs s Q)).h) (.val (.slice none 0 0)) dn (fuB fu)), .arx 44 3 Q.length (Q.flatMap (oF 0))] := by
  refine dcalls_body (N := 23) 3 (by kernel_rfl) Try.func57 rfl rfl rfl (by simp only [fr0, Nat.zero_add, Nat.reduceAdd]; exact rfl) rfl fun s0 hs0 => ?_
  refine dbody_seq rfl hs0 ?_
  refine dwp_holes 2 (by simp only [holes, List.cons_append, List.nil_append]; exact rfl) ?_
  refine dwp_region ?_
  refine walk_w rfl rfl rfl (op_boxam 3 rfl (ev1 rfl) rfl) (by simp only [upd, List.set_cons_zero, List.set_cons_succ]; exact rfl) ?_
  refine walk_w rfl rfl rfl (op_alloc 4 rfl zr31 rfl) (by simp only [upd, List.set_cons_zero, List.set_cons_succ]; exact rfl) ?_
  refine walk_nil ?_
  refine dbody_defer (l0 := [_]) rfl rfl rfl rfl rfl hs0 ?_
  refine walk_r rfl rfl rfl (op_mkf rfl en (ec (ev1 rfl) en)) ?_
  refine walk_nil ⟨_, _, _, 5, ev1 rfl, Nat.le_trans hs0 (by decide), rfl, ?_⟩
  have hs1 : s0.M.length ≤ 5 := Nat.le_trans hs0 (by decide)
  refine dbody_end rfl hs0 ?_
  refine dwp_seq ?_
  refine dwp_region ?_
  refine walk_r rfl rfl rfl (op_ldmw rfl tb44 (ev1 rfl) rfl rfl) ?_
  refine walk_r rfl rfl rfl (dop_call [] [] [] rfl (ev1 rfl) (ec (ev1 rfl) en) rfl rfl (maybe_d ⟨4, z, b⟩) rfl rfl rfl rfl rfl rfl) ?_
  refine walk_r rfl rfl rfl (dop_call [] [] [] rfl (ev1 rfl) (ec (ev1 rfl) (ec (ev1 rfl) en)) rfl rfl (need_ok _ _ (ho)) rfl rfl rfl rfl rfl rfl) ?_
  refine walk_nil ?_
  refine dwp_seq ?_
  refine dwp_region ?_
  refine walk_r rfl rfl rfl (op_move (.inl rfl) (ev1 rfl)) ?_
  refine walk_r rfl rfl rfl (op_nc rfl (ev1 rfl) (fun s v h => by cases h; exact ⟨_, rfl⟩)) ?_
  refine walk_r rfl rfl rfl (op_fa rfl fo86_0 (ev1 rfl)) ?_
  refine walk_r rfl rfl rfl (op_fa rfl fo26_3 (ev1 rfl)) ?_
  refine walk_r rfl rfl rfl (op_ldm rfl tb4 (ev1 rfl) rfl rfl) ?_
  refine walk_r rfl rfl rfl (op_not rfl (ev1 rfl)) ?_
  refine walk_r rfl rfl rfl (dop_call [] [] [] rfl (ev1 rfl) (ec (ev1 rfl) (ec (ev1 rfl) en)) rfl rfl (need_ok _ _ (by rw [hd]; rfl)) rfl rfl rfl rfl rfl rfl) ?_
  refine walk_nil ?_
  refine dwp_seq ?_
  refine dwp_draw [([], []), ([], []), ([3], []), ([], []), ([], []), ([3], []), ([0, 1, 2], [0, 1, 2])] mixed (by kernel_rfl) ?_
  refine lex_r rfl rfl (dop_call [] [] [] rfl (ev1 rfl) en rfl rfl (does_d) rfl rfl rfl rfl rfl rfl) ?_
  refine lex_r rfl rfl (op_fa rfl fo44_0 (ev1 rfl)) ?_
  refine lex_r rfl rfl (op_ldm rfl tb3 (ev1 rfl) rfl rfl) ?_
  refine lex_r rfl rfl (op_ixw 4 rfl aw97 (ev1 rfl) (ev1 rfl) (fun _ => rfl) (by decide) rfl) ?_
  refine lex_r rfl rfl (op_move (.inl rfl) (ev1 rfl)) ?_
  refine lex_r rfl rfl (op_ldmw rfl tb44 (ev1 rfl) rfl rfl) ?_
  refine lex_w rfl rfl (dop_call [0, 1, 2] [] [] rfl (ev1 rfl) (ec (ev1 rfl) (ec (ev1 rfl) en)) rfl (by exact mfits _ _ ⟨rfl, rfl, (by first | exact rfl | exact arx_fits rfl rfl (vwL_flat (fun _ => rfl) _) | exact arxr_fits rfl rfl (nlL_flatR (fun _ => rfl) _) | exact arxg_fits rfl rfl (fun _ => rfl) | exact arxs_fits rfl rfl (fun _ => rfl)), trivial⟩) (sync_ok s dn fu ⟨4, z, b⟩ Q hf1 hf0 hG hw hlen hb) rfl rfl rfl (by exact (wrc rfl (wrc rfl (wrc (by first | exact rfl | exact sb_arx (fun _ => rfl) | exact sb_arxr (nlL_flatR (fun _ => rfl) _) | exact sb_arxg (fun _ => rfl) | exact sb_arxs (fun _ => rfl)) rfl)))) rfl rfl) rfl (by simp only [upd, List.set_cons_zero, List.set_cons_succ]; exact rfl) ?_
  refine lex_nil ?_
  refine dwp_seq ?_
  refine dwp_region ?_
  refine walk_s rfl rfl (op_stwi rfl tb31 (ev1 rfl) (ev1 rfl) rfl) (by simp only [upd, List.set_cons_zero, List.set_cons_succ]; exact rfl) ?_
  refine walk_nil ?_
  refine dwp_ret ?_
  refine kdef (dturn_idle [4] [] rfl rfl (tryf_idle _) rfl rfl rfl rfl rfl) ?_
  refine kend [0, 1, 2] (rs1 rfl (rv_1 tb31 rfl rfl rfl)) rfl rfl ?_ ⟨?_, ?_, ?_, trivial⟩
  rfl
  all_goals first | exact rfl | exact mixl_fits (m := 3) rfl rfl (cG_lt (by decide) rfl) | exact ox_fits rfl rfl rfl
theorem mayO_w {o : DOpn} (h : mayO o = true) (hk : o.kd ≠ 4) : mayW o = true := by
  unfold mayO at h
  have e : (o.kd == 4) = false := by simp [hk]
  rw [e] at h
  simpa using h
set_option maxRecDepth 4000 in
set_option maxHeartbeats 1000000 in
theorem try_2_full (s : DSt) (dn : Bool) (fu : Int) (z : Int) (b : List Nat) (Q : List (DOpn × Nat)) (ho : mayO ⟨2, z, b⟩ = true) (hd : dn = false) (hq : ¬ Q.length < 4096) : DFun Try.prog 57 [.loc 1 0, .agg (oD (⟨2, z, b⟩ : DOpn))] [.fam (s).B, .mix 86 (cG ((s).g) ((s).h) (.arr 2) dn fu), .arx 44 3 Q.length (Q.flatMap (oF 0))] (.val (.int .i64 6)) [.fam (s).B, .mix 86 (cG ((s).g) ((s).h) (.arr 2) dn fu), .arx 44 3 Q.length (Q.flatMap (oF 0))] := by
  refine dcalls_body (N := 23) 3 (by kernel_rfl) Try.func57 rfl rfl rfl (by simp only [fr0, Nat.zero_add, Nat.reduceAdd]; exact rfl) rfl fun s0 hs0 => ?_
  refine dbody_seq rfl hs0 ?_
  refine dwp_holes 2 (by simp only [holes, List.cons_append, List.nil_append]; exact rfl) ?_
  refine dwp_region ?_
  refine walk_w rfl rfl rfl (op_boxam 3 rfl (ev1 rfl) rfl) (by simp only [upd, List.set_cons_zero, List.set_cons_succ]; exact rfl) ?_
  refine walk_w rfl rfl rfl (op_alloc 4 rfl zr31 rfl) (by simp only [upd, List.set_cons_zero, List.set_cons_succ]; exact rfl) ?_
  refine walk_nil ?_
  refine dbody_defer (l0 := [_]) rfl rfl rfl rfl rfl hs0 ?_
  refine walk_r rfl rfl rfl (op_mkf rfl en (ec (ev1 rfl) en)) ?_
  refine walk_nil ⟨_, _, _, 5, ev1 rfl, Nat.le_trans hs0 (by decide), rfl, ?_⟩
  have hs1 : s0.M.length ≤ 5 := Nat.le_trans hs0 (by decide)
  refine dbody_end rfl hs0 ?_
  refine dwp_seq ?_
  refine dwp_region ?_
  refine walk_r rfl rfl rfl (op_ldmw rfl tb44 (ev1 rfl) rfl rfl) ?_
  refine walk_r rfl rfl rfl (dop_call [] [] [] rfl (ev1 rfl) (ec (ev1 rfl) en) rfl rfl (maybe_d ⟨2, z, b⟩) rfl rfl rfl rfl rfl rfl) ?_
  refine walk_r rfl rfl rfl (dop_call [] [] [] rfl (ev1 rfl) (ec (ev1 rfl) (ec (ev1 rfl) en)) rfl rfl (need_ok _ _ (ho)) rfl rfl rfl rfl rfl rfl) ?_
  refine walk_nil ?_
  refine dwp_seq ?_
  refine dwp_region ?_
  refine walk_r rfl rfl rfl (op_move (.inl rfl) (ev1 rfl)) ?_
  refine walk_r rfl rfl rfl (op_nc rfl (ev1 rfl) (fun s v h => by cases h; exact ⟨_, rfl⟩)) ?_
  refine walk_r rfl rfl rfl (op_fa rfl fo86_0 (ev1 rfl)) ?_
  refine walk_r rfl rfl rfl (op_fa rfl fo26_3 (ev1 rfl)) ?_
  refine walk_r rfl rfl rfl (op_ldm rfl tb4 (ev1 rfl) rfl rfl) ?_
  refine walk_r rfl rfl rfl (op_not rfl (ev1 rfl)) ?_
  refine walk_r rfl rfl rfl (dop_call [] [] [] rfl (ev1 rfl) (ec (ev1 rfl) (ec (ev1 rfl) en)) rfl rfl (need_ok _ _ (by rw [hd]; rfl)) rfl rfl rfl rfl rfl rfl) ?_
  refine walk_nil ?_
  refine dwp_seq ?_
  refine dwp_drawP 6 [([], []), ([], []), ([3], []), ([], []), ([], []), ([3], [])] mixed (by kernel_rfl) rfl rfl ?_
  refine lex_r rfl rfl (dop_call [] [] [] rfl (ev1 rfl) en rfl rfl (does_d) rfl rfl rfl rfl rfl rfl) ?_
  refine lex_r rfl rfl (op_fa rfl fo44_0 (ev1 rfl)) ?_
  refine lex_r rfl rfl (op_ldm rfl tb3 (ev1 rfl) rfl rfl) ?_
  refine lex_r rfl rfl (op_ixw 2 rfl aw97 (ev1 rfl) (ev1 rfl) (fun _ => rfl) (by decide) rfl) ?_
  refine lex_r rfl rfl (op_move (.inl rfl) (ev1 rfl)) ?_
  refine lex_r rfl rfl (op_ldmw rfl tb44 (ev1 rfl) rfl rfl) ?_
  refine lex_nil ⟨_, _, _, rfl, dop_callP [0, 1, 2] [] [] rfl (ev1 rfl) (ec (ev1 rfl) (ec (ev1 rfl) en)) rfl (by exact mfits _ _ ⟨rfl, rfl, (by first | exact rfl | exact arx_fits rfl rfl (vwL_flat (fun _ => rfl) _) | exact arxr_fits rfl rfl (nlL_flatR (fun _ => rfl) _) | exact arxg_fits rfl rfl (fun _ => rfl) | exact arxs_fits rfl rfl (fun _ => rfl)), trivial⟩) (wait_full s.B s.g s.h dn fu ⟨2, z, b⟩ Q.length Q hq) rfl rfl rfl (by exact (wrc rfl (wrc rfl (wrc (by first | exact rfl | exact sb_arx (fun _ => rfl) | exact sb_arxr (nlL_flatR (fun _ => rfl) _) | exact sb_arxg (fun _ => rfl) | exact sb_arxs (fun _ => rfl)) rfl)))) rfl rfl, ?_⟩
  refine kdef (dturn_caught [4] [] rfl rfl rfl (tryf_caught _ _) rfl rfl rfl rfl rfl) ?_
  refine kend [0, 1, 2] (rs1 rfl (rv_1 tb31 rfl rfl rfl)) rfl rfl ?_ ⟨?_, ?_, ?_, trivial⟩
  rfl
  all_goals first | exact rfl | exact mixl_fits (m := 3) rfl rfl (cG_lt (by decide) rfl) | exact ox_fits rfl rfl rfl
set_option maxRecDepth 4000 in
set_option maxHeartbeats 1000000 in
theorem try_2_down (s : DSt) (dn : Bool) (fu : Int) (z : Int) (b : List Nat) (Q : List (DOpn × Nat)) (ho : mayO ⟨2, z, b⟩ = true) (hd : dn = false) (hq : Q.length < 4096) (hf1 : fu = 1) : DFun Try.prog 57 [.loc 1 0, .agg (oD (⟨2, z, b⟩ : DOpn))] [.fam (s).B, .mix 86 (cG ((s).g) ((s).h) (.arr 2) dn fu), .arx 44 3 Q.length (Q.flatMap (oF 0))] (.val (.int .i64 321)) [.fam (s).B, .mix 86 (cG ((s).g) ((s).h) (.arr 2) true 0), .arx 44 3 Q.length (Q.flatMap (oF 0))] := by
  refine dcalls_body (N := 23) 3 (by kernel_rfl) Try.func57 rfl rfl rfl (by simp only [fr0, Nat.zero_add, Nat.reduceAdd]; exact rfl) rfl fun s0 hs0 => ?_
  refine dbody_seq rfl hs0 ?_
  refine dwp_holes 2 (by simp only [holes, List.cons_append, List.nil_append]; exact rfl) ?_
  refine dwp_region ?_
  refine walk_w rfl rfl rfl (op_boxam 3 rfl (ev1 rfl) rfl) (by simp only [upd, List.set_cons_zero, List.set_cons_succ]; exact rfl) ?_
  refine walk_w rfl rfl rfl (op_alloc 4 rfl zr31 rfl) (by simp only [upd, List.set_cons_zero, List.set_cons_succ]; exact rfl) ?_
  refine walk_nil ?_
  refine dbody_defer (l0 := [_]) rfl rfl rfl rfl rfl hs0 ?_
  refine walk_r rfl rfl rfl (op_mkf rfl en (ec (ev1 rfl) en)) ?_
  refine walk_nil ⟨_, _, _, 5, ev1 rfl, Nat.le_trans hs0 (by decide), rfl, ?_⟩
  have hs1 : s0.M.length ≤ 5 := Nat.le_trans hs0 (by decide)
  refine dbody_end rfl hs0 ?_
  refine dwp_seq ?_
  refine dwp_region ?_
  refine walk_r rfl rfl rfl (op_ldmw rfl tb44 (ev1 rfl) rfl rfl) ?_
  refine walk_r rfl rfl rfl (dop_call [] [] [] rfl (ev1 rfl) (ec (ev1 rfl) en) rfl rfl (maybe_d ⟨2, z, b⟩) rfl rfl rfl rfl rfl rfl) ?_
  refine walk_r rfl rfl rfl (dop_call [] [] [] rfl (ev1 rfl) (ec (ev1 rfl) (ec (ev1 rfl) en)) rfl rfl (need_ok _ _ (ho)) rfl rfl rfl rfl rfl rfl) ?_
  refine walk_nil ?_
  refine dwp_seq ?_
  refine dwp_region ?_
  refine walk_r rfl rfl rfl (op_move (.inl rfl) (ev1 rfl)) ?_
  refine walk_r rfl rfl rfl (op_nc rfl (ev1 rfl) (fun s v h => by cases h; exact ⟨_, rfl⟩)) ?_
  refine walk_r rfl rfl rfl (op_fa rfl fo86_0 (ev1 rfl)) ?_
  refine walk_r rfl rfl rfl (op_fa rfl fo26_3 (ev1 rfl)) ?_
  refine walk_r rfl rfl rfl (op_ldm rfl tb4 (ev1 rfl) rfl rfl) ?_
  refine walk_r rfl rfl rfl (op_not rfl (ev1 rfl)) ?_
  refine walk_r rfl rfl rfl (dop_call [] [] [] rfl (ev1 rfl) (ec (ev1 rfl) (ec (ev1 rfl) en)) rfl rfl (need_ok _ _ (by rw [hd]; rfl)) rfl rfl rfl rfl rfl rfl) ?_
  refine walk_nil ?_
  refine dwp_seq ?_
  refine dwp_drawP 6 [([], []), ([], []), ([3], []), ([], []), ([], []), ([3], [])] mixed (by kernel_rfl) rfl rfl ?_
  refine lex_r rfl rfl (dop_call [] [] [] rfl (ev1 rfl) en rfl rfl (does_d) rfl rfl rfl rfl rfl rfl) ?_
  refine lex_r rfl rfl (op_fa rfl fo44_0 (ev1 rfl)) ?_
  refine lex_r rfl rfl (op_ldm rfl tb3 (ev1 rfl) rfl rfl) ?_
  refine lex_r rfl rfl (op_ixw 2 rfl aw97 (ev1 rfl) (ev1 rfl) (fun _ => rfl) (by decide) rfl) ?_
  refine lex_r rfl rfl (op_move (.inl rfl) (ev1 rfl)) ?_
  refine lex_r rfl rfl (op_ldmw rfl tb44 (ev1 rfl) rfl rfl) ?_
  refine lex_nil ⟨_, _, _, rfl, dop_callP [0, 1, 2] [] [] rfl (ev1 rfl) (ec (ev1 rfl) (ec (ev1 rfl) en)) rfl (by exact mfits _ _ ⟨rfl, rfl, (by first | exact rfl | exact arx_fits rfl rfl (vwL_flat (fun _ => rfl) _) | exact arxr_fits rfl rfl (nlL_flatR (fun _ => rfl) _) | exact arxg_fits rfl rfl (fun _ => rfl) | exact arxs_fits rfl rfl (fun _ => rfl)), trivial⟩) (wait_down s.B s.g s.h dn fu ⟨2, z, b⟩ Q.length Q hq hf1) rfl rfl rfl (by exact (wrc rfl (wrc rfl (wrc (by first | exact rfl | exact sb_arx (fun _ => rfl) | exact sb_arxr (nlL_flatR (fun _ => rfl) _) | exact sb_arxg (fun _ => rfl) | exact sb_arxs (fun _ => rfl)) rfl)))) rfl rfl, ?_⟩
  refine kdef (dturn_caught [4] [] rfl rfl rfl (tryf_caught _ _) rfl rfl rfl rfl rfl) ?_
  refine kend [0, 1, 2] (rs1 rfl (rv_1 tb31 rfl rfl rfl)) rfl rfl ?_ ⟨?_, ?_, ?_, trivial⟩
  rfl
  all_goals first | exact rfl | exact mixl_fits (m := 3) rfl rfl (cG_lt (by decide) rfl) | exact ox_fits rfl rfl rfl
set_option maxRecDepth 4000 in
set_option maxHeartbeats 1000000 in
theorem try_2_ok (s : DSt) (dn : Bool) (fu : Int) (z : Int) (b : List Nat) (Q : List (DOpn × Nat)) (ho : mayO ⟨2, z, b⟩ = true) (hd : dn = false) (hq : Q.length < 4096) (hf1 : fu ≠ 1) (hf0 : 0 ≤ fu ∧ fu ≤ 4096) (hob : b.length ≤ 10000000) : DFun Try.prog 57 [.loc 1 0, .agg (oD (⟨2, z, b⟩ : DOpn))] [.fam (s).B, .mix 86 (cG ((s).g) ((s).h) (.arr 2) dn fu), .arx 44 3 Q.length (Q.flatMap (oF 0))] (.val (.int .i64 0)) [.fam (s.B ++ [rowB b]), .mix 86 (cG (s.g) (s.h) (.arr 3) dn (fuB fu)), .gone, .arx 44 3 (Q.length + 1) ((Q ++ [((⟨2, z, b⟩ : DOpn), s.B.length)]).flatMap (oF 0))] := by
  refine dcalls_body (N := 23) 3 (by kernel_rfl) Try.func57 rfl rfl rfl (by simp only [fr0, Nat.zero_add, Nat.reduceAdd]; exact rfl) rfl fun s0 hs0 => ?_
  refine dbody_seq rfl hs0 ?_
  refine dwp_holes 2 (by simp only [holes, List.cons_append, List.nil_append]; exact rfl) ?_
  refine dwp_region ?_
  refine walk_w rfl rfl rfl (op_boxam 3 rfl (ev1 rfl) rfl) (by simp only [upd, List.set_cons_zero, List.set_cons_succ]; exact rfl) ?_
  refine walk_w rfl rfl rfl (op_alloc 4 rfl zr31 rfl) (by simp only [upd, List.set_cons_zero, List.set_cons_succ]; exact rfl) ?_
  refine walk_nil ?_
  refine dbody_defer (l0 := [_]) rfl rfl rfl rfl rfl hs0 ?_
  refine walk_r rfl rfl rfl (op_mkf rfl en (ec (ev1 rfl) en)) ?_
  refine walk_nil ⟨_, _, _, 5, ev1 rfl, Nat.le_trans hs0 (by decide), rfl, ?_⟩
  have hs1 : s0.M.length ≤ 5 := Nat.le_trans hs0 (by decide)
  refine dbody_end rfl hs0 ?_
  refine dwp_seq ?_
  refine dwp_region ?_
  refine walk_r rfl rfl rfl (op_ldmw rfl tb44 (ev1 rfl) rfl rfl) ?_
  refine walk_r rfl rfl rfl (dop_call [] [] [] rfl (ev1 rfl) (ec (ev1 rfl) en) rfl rfl (maybe_d ⟨2, z, b⟩) rfl rfl rfl rfl rfl rfl) ?_
  refine walk_r rfl rfl rfl (dop_call [] [] [] rfl (ev1 rfl) (ec (ev1 rfl) (ec (ev1 rfl) en)) rfl rfl (need_ok _ _ (ho)) rfl rfl rfl rfl rfl rfl) ?_
  refine walk_nil ?_
  refine dwp_seq ?_
  refine dwp_region ?_
  refine walk_r rfl rfl rfl (op_move (.inl rfl) (ev1 rfl)) ?_
  refine walk_r rfl rfl rfl (op_nc rfl (ev1 rfl) (fun s v h => by cases h; exact ⟨_, rfl⟩)) ?_
  refine walk_r rfl rfl rfl (op_fa rfl fo86_0 (ev1 rfl)) ?_
  refine walk_r rfl rfl rfl (op_fa rfl fo26_3 (ev1 rfl)) ?_
  refine walk_r rfl rfl rfl (op_ldm rfl tb4 (ev1 rfl) rfl rfl) ?_
  refine walk_r rfl rfl rfl (op_not rfl (ev1 rfl)) ?_
  refine walk_r rfl rfl rfl (dop_call [] [] [] rfl (ev1 rfl) (ec (ev1 rfl) (ec (ev1 rfl) en)) rfl rfl (need_ok _ _ (by rw [hd]; rfl)) rfl rfl rfl rfl rfl rfl) ?_
  refine walk_nil ?_
  refine dwp_seq ?_
  refine dwp_holes 1 (by simp only [holes, List.cons_append, List.nil_append]; exact rfl) ?_
  refine dwp_draw [([], []), ([], []), ([3], []), ([], []), ([], []), ([3], []), ([0, 1, 2, 5], [0, 1, 2, 5])] mixed (by kernel_rfl) ?_
  refine lex_r rfl rfl (dop_call [] [] [] rfl (ev1 rfl) en rfl rfl (does_d) rfl rfl rfl rfl rfl rfl) ?_
  refine lex_r rfl rfl (op_fa rfl fo44_0 (ev1 rfl)) ?_
  refine lex_r rfl rfl (op_ldm rfl tb3 (ev1 rfl) rfl rfl) ?_
  refine lex_r rfl rfl (op_ixw 2 rfl aw97 (ev1 rfl) (ev1 rfl) (fun _ => rfl) (by decide) rfl) ?_
  refine lex_r rfl rfl (op_move (.inl rfl) (ev1 rfl)) ?_
  refine lex_r rfl rfl (op_ldmw rfl tb44 (ev1 rfl) rfl rfl) ?_
  refine lex_w rfl rfl (dop_call [0, 1, 2] [] [5] rfl (ev1 rfl) (ec (ev1 rfl) (ec (ev1 rfl) en)) rfl (by exact mfits _ _ ⟨rfl, rfl, (by first | exact rfl | exact arx_fits rfl rfl (vwL_flat (fun _ => rfl) _) | exact arxr_fits rfl rfl (nlL_flatR (fun _ => rfl) _) | exact arxg_fits rfl rfl (fun _ => rfl) | exact arxs_fits rfl rfl (fun _ => rfl)), trivial⟩) (wait_ok s.B s.g s.h dn fu ⟨2, z, b⟩ Q.length Q hq hf1 hf0 (by show b.length ≤ _; omega)) rfl rfl rfl (by exact (wrc rfl (wrc rfl (wrc rfl (wrc (by first | exact rfl | exact sb_arx (fun _ => rfl) | exact sb_arxr (nlL_flatR (fun _ => rfl) _) | exact sb_arxg (fun _ => rfl) | exact sb_arxs (fun _ => rfl)) rfl))))) rfl rfl) rfl (by simp only [upd, List.set_cons_zero, List.set_cons_succ]; exact rfl) ?_
  refine lex_nil ?_
  refine dwp_seq ?_
  refine dwp_region ?_
  refine walk_s rfl rfl (op_stwi rfl tb31 (ev1 rfl) (ev1 rfl) rfl) (by simp only [upd, List.set_cons_zero, List.set_cons_succ]; exact rfl) ?_
  refine walk_nil ?_
  refine dwp_ret ?_
  refine kdef (dturn_idle [4] [] rfl rfl (tryf_idle _) rfl rfl rfl rfl rfl) ?_
  refine kend [0, 1, 2, 5] (rs1 rfl (rv_1 tb31 rfl rfl rfl)) rfl rfl ?_ ⟨?_, ?_, ?_, ?_, trivial⟩
  rfl
  all_goals first | exact rfl | exact mixl_fits (m := 3) rfl rfl (cG_lt (by decide) rfl) | exact ox_fits rfl rfl rfl | exact ox_fits (Q := Q ++ [((⟨2, z, b⟩ : DOpn), s.B.length)]) rfl rfl rfl
set_option maxRecDepth 4000 in
set_option maxHeartbeats 1000000 in
theorem try_3_full (s : DSt) (dn : Bool) (fu : Int) (z : Int) (b : List Nat) (Q : List (DOpn × Nat)) (ho : mayO ⟨3, z, b⟩ = true) (hd : dn = false) (hq : ¬ Q.length < 4096) : DFun Try.prog 57 [.loc 1 0, .agg (oD (⟨3, z, b⟩ : DOpn))] [.fam (s).B, .mix 86 (cG ((s).g) ((s).h) (.arr 2) dn fu), .arx 44 3 Q.length (Q.flatMap (oF 0))] (.val (.int .i64 6)) [.fam (s).B, .mix 86 (cG ((s).g) ((s).h) (.arr 2) dn fu), .arx 44 3 Q.length (Q.flatMap (oF 0))] := by
  refine dcalls_body (N := 23) 3 (by kernel_rfl) Try.func57 rfl rfl rfl (by simp only [fr0, Nat.zero_add, Nat.reduceAdd]; exact rfl) rfl fun s0 hs0 => ?_
  refine dbody_seq rfl hs0 ?_
  refine dwp_holes 2 (by simp only [holes, List.cons_append, List.nil_append]; exact rfl) ?_
  refine dwp_region ?_
  refine walk_w rfl rfl rfl (op_boxam 3 rfl (ev1 rfl) rfl) (by simp only [upd, List.set_cons_zero, List.set_cons_succ]; exact rfl) ?_
  refine walk_w rfl rfl rfl (op_alloc 4 rfl zr31 rfl) (by simp only [upd, List.set_cons_zero, List.set_cons_succ]; exact rfl) ?_
  refine walk_nil ?_
  refine dbody_defer (l0 := [_]) rfl rfl rfl rfl rfl hs0 ?_
  refine walk_r rfl rfl rfl (op_mkf rfl en (ec (ev1 rfl) en)) ?_
  refine walk_nil ⟨_, _, _, 5, ev1 rfl, Nat.le_trans hs0 (by decide), rfl, ?_⟩
  have hs1 : s0.M.length ≤ 5 := Nat.le_trans hs0 (by decide)
  refine dbody_end rfl hs0 ?_
  refine dwp_seq ?_
  refine dwp_region ?_
  refine walk_r rfl rfl rfl (op_ldmw rfl tb44 (ev1 rfl) rfl rfl) ?_
  refine walk_r rfl rfl rfl (dop_call [] [] [] rfl (ev1 rfl) (ec (ev1 rfl) en) rfl rfl (maybe_d ⟨3, z, b⟩) rfl rfl rfl rfl rfl rfl) ?_
  refine walk_r rfl rfl rfl (dop_call [] [] [] rfl (ev1 rfl) (ec (ev1 rfl) (ec (ev1 rfl) en)) rfl rfl (need_ok _ _ (ho)) rfl rfl rfl rfl rfl rfl) ?_
  refine walk_nil ?_
  refine dwp_seq ?_
  refine dwp_region ?_
  refine walk_r rfl rfl rfl (op_move (.inl rfl) (ev1 rfl)) ?_
  refine walk_r rfl rfl rfl (op_nc rfl (ev1 rfl) (fun s v h => by cases h; exact ⟨_, rfl⟩)) ?_
  refine walk_r rfl rfl rfl (op_fa rfl fo86_0 (ev1 rfl)) ?_
  refine walk_r rfl rfl rfl (op_fa rfl fo26_3 (ev1 rfl)) ?_
  refine walk_r rfl rfl rfl (op_ldm rfl tb4 (ev1 rfl) rfl rfl) ?_
  refine walk_r rfl rfl rfl (op_not rfl (ev1 rfl)) ?_
  refine walk_r rfl rfl rfl (dop_call [] [] [] rfl (ev1 rfl) (ec (ev1 rfl) (ec (ev1 rfl) en)) rfl rfl (need_ok _ _ (by rw [hd]; rfl)) rfl rfl rfl rfl rfl rfl) ?_
  refine walk_nil ?_
  refine dwp_seq ?_
  refine dwp_drawP 6 [([], []), ([], []), ([3], []), ([], []), ([], []), ([3], [])] mixed (by kernel_rfl) rfl rfl ?_
  refine lex_r rfl rfl (dop_call [] [] [] rfl (ev1 rfl) en rfl rfl (does_d) rfl rfl rfl rfl rfl rfl) ?_
  refine lex_r rfl rfl (op_fa rfl fo44_0 (ev1 rfl)) ?_
  refine lex_r rfl rfl (op_ldm rfl tb3 (ev1 rfl) rfl rfl) ?_
  refine lex_r rfl rfl (op_ixw 3 rfl aw97 (ev1 rfl) (ev1 rfl) (fun _ => rfl) (by decide) rfl) ?_
  refine lex_r rfl rfl (op_move (.inl rfl) (ev1 rfl)) ?_
  refine lex_r rfl rfl (op_ldmw rfl tb44 (ev1 rfl) rfl rfl) ?_
  refine lex_nil ⟨_, _, _, rfl, dop_callP [0, 1, 2] [] [] rfl (ev1 rfl) (ec (ev1 rfl) (ec (ev1 rfl) en)) rfl (by exact mfits _ _ ⟨rfl, rfl, (by first | exact rfl | exact arx_fits rfl rfl (vwL_flat (fun _ => rfl) _) | exact arxr_fits rfl rfl (nlL_flatR (fun _ => rfl) _) | exact arxg_fits rfl rfl (fun _ => rfl) | exact arxs_fits rfl rfl (fun _ => rfl)), trivial⟩) (wait_full s.B s.g s.h dn fu ⟨3, z, b⟩ Q.length Q hq) rfl rfl rfl (by exact (wrc rfl (wrc rfl (wrc (by first | exact rfl | exact sb_arx (fun _ => rfl) | exact sb_arxr (nlL_flatR (fun _ => rfl) _) | exact sb_arxg (fun _ => rfl) | exact sb_arxs (fun _ => rfl)) rfl)))) rfl rfl, ?_⟩
  refine kdef (dturn_caught [4] [] rfl rfl rfl (tryf_caught _ _) rfl rfl rfl rfl rfl) ?_
  refine kend [0, 1, 2] (rs1 rfl (rv_1 tb31 rfl rfl rfl)) rfl rfl ?_ ⟨?_, ?_, ?_, trivial⟩
  rfl
  all_goals first | exact rfl | exact mixl_fits (m := 3) rfl rfl (cG_lt (by decide) rfl) | exact ox_fits rfl rfl rfl
set_option maxRecDepth 4000 in
set_option maxHeartbeats 1000000 in
theorem try_3_down (s : DSt) (dn : Bool) (fu : Int) (z : Int) (b : List Nat) (Q : List (DOpn × Nat)) (ho : mayO ⟨3, z, b⟩ = true) (hd : dn = false) (hq : Q.length < 4096) (hf1 : fu = 1) : DFun Try.prog 57 [.loc 1 0, .agg (oD (⟨3, z, b⟩ : DOpn))] [.fam (s).B, .mix 86 (cG ((s).g) ((s).h) (.arr 2) dn fu), .arx 44 3 Q.length (Q.flatMap (oF 0))] (.val (.int .i64 321)) [.fam (s).B, .mix 86 (cG ((s).g) ((s).h) (.arr 2) true 0), .arx 44 3 Q.length (Q.flatMap (oF 0))] := by
  refine dcalls_body (N := 23) 3 (by kernel_rfl) Try.func57 rfl rfl rfl (by simp only [fr0, Nat.zero_add, Nat.reduceAdd]; exact rfl) rfl fun s0 hs0 => ?_
  refine dbody_seq rfl hs0 ?_
  refine dwp_holes 2 (by simp only [holes, List.cons_append, List.nil_append]; exact rfl) ?_
  refine dwp_region ?_
  refine walk_w rfl rfl rfl (op_boxam 3 rfl (ev1 rfl) rfl) (by simp only [upd, List.set_cons_zero, List.set_cons_succ]; exact rfl) ?_
  refine walk_w rfl rfl rfl (op_alloc 4 rfl zr31 rfl) (by simp only [upd, List.set_cons_zero, List.set_cons_succ]; exact rfl) ?_
  refine walk_nil ?_
  refine dbody_defer (l0 := [_]) rfl rfl rfl rfl rfl hs0 ?_
  refine walk_r rfl rfl rfl (op_mkf rfl en (ec (ev1 rfl) en)) ?_
  refine walk_nil ⟨_, _, _, 5, ev1 rfl, Nat.le_trans hs0 (by decide), rfl, ?_⟩
  have hs1 : s0.M.length ≤ 5 := Nat.le_trans hs0 (by decide)
  refine dbody_end rfl hs0 ?_
  refine dwp_seq ?_
  refine dwp_region ?_
  refine walk_r rfl rfl rfl (op_ldmw rfl tb44 (ev1 rfl) rfl rfl) ?_
  refine walk_r rfl rfl rfl (dop_call [] [] [] rfl (ev1 rfl) (ec (ev1 rfl) en) rfl rfl (maybe_d ⟨3, z, b⟩) rfl rfl rfl rfl rfl rfl) ?_
  refine walk_r rfl rfl rfl (dop_call [] [] [] rfl (ev1 rfl) (ec (ev1 rfl) (ec (ev1 rfl) en)) rfl rfl (need_ok _ _ (ho)) rfl rfl rfl rfl rfl rfl) ?_
  refine walk_nil ?_
  refine dwp_seq ?_
  refine dwp_region ?_
  refine walk_r rfl rfl rfl (op_move (.inl rfl) (ev1 rfl)) ?_
  refine walk_r rfl rfl rfl (op_nc rfl (ev1 rfl) (fun s v h => by cases h; exact ⟨_, rfl⟩)) ?_
  refine walk_r rfl rfl rfl (op_fa rfl fo86_0 (ev1 rfl)) ?_
  refine walk_r rfl rfl rfl (op_fa rfl fo26_3 (ev1 rfl)) ?_
  refine walk_r rfl rfl rfl (op_ldm rfl tb4 (ev1 rfl) rfl rfl) ?_
  refine walk_r rfl rfl rfl (op_not rfl (ev1 rfl)) ?_
  refine walk_r rfl rfl rfl (dop_call [] [] [] rfl (ev1 rfl) (ec (ev1 rfl) (ec (ev1 rfl) en)) rfl rfl (need_ok _ _ (by rw [hd]; rfl)) rfl rfl rfl rfl rfl rfl) ?_
  refine walk_nil ?_
  refine dwp_seq ?_
  refine dwp_drawP 6 [([], []), ([], []), ([3], []), ([], []), ([], []), ([3], [])] mixed (by kernel_rfl) rfl rfl ?_
  refine lex_r rfl rfl (dop_call [] [] [] rfl (ev1 rfl) en rfl rfl (does_d) rfl rfl rfl rfl rfl rfl) ?_
  refine lex_r rfl rfl (op_fa rfl fo44_0 (ev1 rfl)) ?_
  refine lex_r rfl rfl (op_ldm rfl tb3 (ev1 rfl) rfl rfl) ?_
  refine lex_r rfl rfl (op_ixw 3 rfl aw97 (ev1 rfl) (ev1 rfl) (fun _ => rfl) (by decide) rfl) ?_
  refine lex_r rfl rfl (op_move (.inl rfl) (ev1 rfl)) ?_
  refine lex_r rfl rfl (op_ldmw rfl tb44 (ev1 rfl) rfl rfl) ?_
  refine lex_nil ⟨_, _, _, rfl, dop_callP [0, 1, 2] [] [] rfl (ev1 rfl) (ec (ev1 rfl) (ec (ev1 rfl) en)) rfl (by exact mfits _ _ ⟨rfl, rfl, (by first | exact rfl | exact arx_fits rfl rfl (vwL_flat (fun _ => rfl) _) | exact arxr_fits rfl rfl (nlL_flatR (fun _ => rfl) _) | exact arxg_fits rfl rfl (fun _ => rfl) | exact arxs_fits rfl rfl (fun _ => rfl)), trivial⟩) (wait_down s.B s.g s.h dn fu ⟨3, z, b⟩ Q.length Q hq hf1) rfl rfl rfl (by exact (wrc rfl (wrc rfl (wrc (by first | exact rfl | exact sb_arx (fun _ => rfl) | exact sb_arxr (nlL_flatR (fun _ => rfl) _) | exact sb_arxg (fun _ => rfl) | exact sb_arxs (fun _ => rfl)) rfl)))) rfl rfl, ?_⟩
  refine kdef (dturn_caught [4] [] rfl rfl rfl (tryf_caught _ _) rfl rfl rfl rfl rfl) ?_
  refine kend [0, 1, 2] (rs1 rfl (rv_1 tb31 rfl rfl rfl)) rfl rfl ?_ ⟨?_, ?_, ?_, trivial⟩
  rfl
  all_goals first | exact rfl | exact mixl_fits (m := 3) rfl rfl (cG_lt (by decide) rfl) | exact ox_fits rfl rfl rfl
set_option maxRecDepth 4000 in
set_option maxHeartbeats 1000000 in
theorem try_3_ok (s : DSt) (dn : Bool) (fu : Int) (z : Int) (b : List Nat) (Q : List (DOpn × Nat)) (ho : mayO ⟨3, z, b⟩ = true) (hd : dn = false) (hq : Q.length < 4096) (hf1 : fu ≠ 1) (hf0 : 0 ≤ fu ∧ fu ≤ 4096) (hob : b.length ≤ 10000000) : DFun Try.prog 57 [.loc 1 0, .agg (oD (⟨3, z, b⟩ : DOpn))] [.fam (s).B, .mix 86 (cG ((s).g) ((s).h) (.arr 2) dn fu), .arx 44 3 Q.length (Q.flatMap (oF 0))] (.val (.int .i64 0)) [.fam (s.B ++ [rowB b]), .mix 86 (cG (s.g) (s.h) (.arr 3) dn (fuB fu)), .gone, .arx 44 3 (Q.length + 1) ((Q ++ [((⟨3, z, b⟩ : DOpn), s.B.length)]).flatMap (oF 0))] := by
  refine dcalls_body (N := 23) 3 (by kernel_rfl) Try.func57 rfl rfl rfl (by simp only [fr0, Nat.zero_add, Nat.reduceAdd]; exact rfl) rfl fun s0 hs0 => ?_
  refine dbody_seq rfl hs0 ?_
  refine dwp_holes 2 (by simp only [holes, List.cons_append, List.nil_append]; exact rfl) ?_
  refine dwp_region ?_
  refine walk_w rfl rfl rfl (op_boxam 3 rfl (ev1 rfl) rfl) (by simp only [upd, List.set_cons_zero, List.set_cons_succ]; exact rfl) ?_
  refine walk_w rfl rfl rfl (op_alloc 4 rfl zr31 rfl) (by simp only [upd, List.set_cons_zero, List.set_cons_succ]; exact rfl) ?_
  refine walk_nil ?_
  refine dbody_defer (l0 := [_]) rfl rfl rfl rfl rfl hs0 ?_
  refine walk_r rfl rfl rfl (op_mkf rfl en (ec (ev1 rfl) en)) ?_
  refine walk_nil ⟨_, _, _, 5, ev1 rfl, Nat.le_trans hs0 (by decide), rfl, ?_⟩
  have hs1 : s0.M.length ≤ 5 := Nat.le_trans hs0 (by decide)
  refine dbody_end rfl hs0 ?_
  refine dwp_seq ?_
  refine dwp_region ?_
  refine walk_r rfl rfl rfl (op_ldmw rfl tb44 (ev1 rfl) rfl rfl) ?_
  refine walk_r rfl rfl rfl (dop_call [] [] [] rfl (ev1 rfl) (ec (ev1 rfl) en) rfl rfl (maybe_d ⟨3, z, b⟩) rfl rfl rfl rfl rfl rfl) ?_
  refine walk_r rfl rfl rfl (dop_call [] [] [] rfl (ev1 rfl) (ec (ev1 rfl) (ec (ev1 rfl) en)) rfl rfl (need_ok _ _ (ho)) rfl rfl rfl rfl rfl rfl) ?_
  refine walk_nil ?_
  refine dwp_seq ?_
  refine dwp_region ?_
  refine walk_r rfl rfl rfl (op_move (.inl rfl) (ev1 rfl)) ?_
  refine walk_r rfl rfl rfl (op_nc rfl (ev1 rfl) (fun s v h => by cases h; exact ⟨_, rfl⟩)) ?_
  refine walk_r rfl rfl rfl (op_fa rfl fo86_0 (ev1 rfl)) ?_
  refine walk_r rfl rfl rfl (op_fa rfl fo26_3 (ev1 rfl)) ?_
  refine walk_r rfl rfl rfl (op_ldm rfl tb4 (ev1 rfl) rfl rfl) ?_
  refine walk_r rfl rfl rfl (op_not rfl (ev1 rfl)) ?_
  refine walk_r rfl rfl rfl (dop_call [] [] [] rfl (ev1 rfl) (ec (ev1 rfl) (ec (ev1 rfl) en)) rfl rfl (need_ok _ _ (by rw [hd]; rfl)) rfl rfl rfl rfl rfl rfl) ?_
  refine walk_nil ?_
  refine dwp_seq ?_
  refine dwp_holes 1 (by simp only [holes, List.cons_append, List.nil_append]; exact rfl) ?_
  refine dwp_draw [([], []), ([], []), ([3], []), ([], []), ([], []), ([3], []), ([0, 1, 2, 5], [0, 1, 2, 5])] mixed (by kernel_rfl) ?_
  refine lex_r rfl rfl (dop_call [] [] [] rfl (ev1 rfl) en rfl rfl (does_d) rfl rfl rfl rfl rfl rfl) ?_
  refine lex_r rfl rfl (op_fa rfl fo44_0 (ev1 rfl)) ?_
  refine lex_r rfl rfl (op_ldm rfl tb3 (ev1 rfl) rfl rfl) ?_
  refine lex_r rfl rfl (op_ixw 3 rfl aw97 (ev1 rfl) (ev1 rfl) (fun _ => rfl) (by decide) rfl) ?_
  refine lex_r rfl rfl (op_move (.inl rfl) (ev1 rfl)) ?_
  refine lex_r rfl rfl (op_ldmw rfl tb44 (ev1 rfl) rfl rfl) ?_
  refine lex_w rfl rfl (dop_call [0, 1, 2] [] [5] rfl (ev1 rfl) (ec (ev1 rfl) (ec (ev1 rfl) en)) rfl (by exact mfits _ _ ⟨rfl, rfl, (by first | exact rfl | exact arx_fits rfl rfl (vwL_flat (fun _ => rfl) _) | exact arxr_fits rfl rfl (nlL_flatR (fun _ => rfl) _) | exact arxg_fits rfl rfl (fun _ => rfl) | exact arxs_fits rfl rfl (fun _ => rfl)), trivial⟩) (wait_ok s.B s.g s.h dn fu ⟨3, z, b⟩ Q.length Q hq hf1 hf0 (by show b.length ≤ _; omega)) rfl rfl rfl (by exact (wrc rfl (wrc rfl (wrc rfl (wrc (by first | exact rfl | exact sb_arx (fun _ => rfl) | exact sb_arxr (nlL_flatR (fun _ => rfl) _) | exact sb_arxg (fun _ => rfl) | exact sb_arxs (fun _ => rfl)) rfl))))) rfl rfl) rfl (by simp only [upd, List.set_cons_zero, List.set_cons_succ]; exact rfl) ?_
  refine lex_nil ?_
  refine dwp_seq ?_
  refine dwp_region ?_
  refine walk_s rfl rfl (op_stwi rfl tb31 (ev1 rfl) (ev1 rfl) rfl) (by simp only [upd, List.set_cons_zero, List.set_cons_succ]; exact rfl) ?_
  refine walk_nil ?_
  refine dwp_ret ?_
  refine kdef (dturn_idle [4] [] rfl rfl (tryf_idle _) rfl rfl rfl rfl rfl) ?_
  refine kend [0, 1, 2, 5] (rs1 rfl (rv_1 tb31 rfl rfl rfl)) rfl rfl ?_ ⟨?_, ?_, ?_, ?_, trivial⟩
  rfl
  all_goals first | exact rfl | exact mixl_fits (m := 3) rfl rfl (cG_lt (by decide) rfl) | exact ox_fits rfl rfl rfl | exact ox_fits (Q := Q ++ [((⟨3, z, b⟩ : DOpn), s.B.length)]) rfl rfl rfl
end Go.Proofs.Ytjecmkaggobcjaa

namespace Go.Proofs.Ytjecmkaggobcjaa
set_option linter.unusedVariables false
set_option linter.unusedSimpArgs false
open Go.RowKit
set_option maxRecDepth 4000 in
set_option maxHeartbeats 1000000 in
theorem try_1_big (s : DSt) (dn : Bool) (fu : Int) (z : Int) (b : List Nat) (Q : List (DOpn × Nat)) (ho : mayO ⟨1, z, b⟩ = true) (hd : dn = false) (hG : GOk s Q) (hw : ∀ o ∈ Q.map Prod.fst, mayW o = true) (hb : fewB (szs s.f) (Q.map Prod.fst)) (hob : b.length ≤ 10000000) (hfu : ¬ ((afts (szs s.f) (Q.map Prod.fst)).getD z.toNat 0 + b.length ≤ 4194304)) : DFun Try.prog 57 [.loc 1 0, .agg (oD (⟨1, z, b⟩ : DOpn))] [.fam (s).B, .mix 86 (cG ((s).g) ((s).h) (.arr 2) dn fu), .arx 44 3 Q.length (Q.flatMap (oF 0))] (.val (.int .i64 6)) [.fam (s).B, .mix 86 (cG ((s).g) ((s).h) (.arr 2) dn fu), .arx 44 3 Q.length (Q.flatMap (oF 0))] := by
  refine dcalls_body (N := 23) 3 (by kernel_rfl) Try.func57 rfl rfl rfl (by simp only [fr0, Nat.zero_add, Nat.reduceAdd]; exact rfl) rfl fun s0 hs0 => ?_
  refine dbody_seq rfl hs0 ?_
  refine dwp_holes 2 (by simp only [holes, List.cons_append, List.nil_append]; exact rfl) ?_
  refine dwp_region ?_
  refine walk_w rfl rfl rfl (op_boxam 3 rfl (ev1 rfl) rfl) (by simp only [upd, List.set_cons_zero, List.set_cons_succ]; exact rfl) ?_
  refine walk_w rfl rfl rfl (op_alloc 4 rfl zr31 rfl) (by simp only [upd, List.set_cons_zero, List.set_cons_succ]; exact rfl) ?_
  refine walk_nil ?_
  refine dbody_defer (l0 := [_]) rfl rfl rfl rfl rfl hs0 ?_
  refine walk_r rfl rfl rfl (op_mkf rfl en (ec (ev1 rfl) en)) ?_
  refine walk_nil ⟨_, _, _, 5, ev1 rfl, Nat.le_trans hs0 (by decide), rfl, ?_⟩
  have hs1 : s0.M.length ≤ 5 := Nat.le_trans hs0 (by decide)
  refine dbody_end rfl hs0 ?_
  refine dwp_seq ?_
  refine dwp_region ?_
  refine walk_r rfl rfl rfl (op_ldmw rfl tb44 (ev1 rfl) rfl rfl) ?_
  refine walk_r rfl rfl rfl (dop_call [] [] [] rfl (ev1 rfl) (ec (ev1 rfl) en) rfl rfl (maybe_d ⟨1, z, b⟩) rfl rfl rfl rfl rfl rfl) ?_
  refine walk_r rfl rfl rfl (dop_call [] [] [] rfl (ev1 rfl) (ec (ev1 rfl) (ec (ev1 rfl) en)) rfl rfl (need_ok _ _ (ho)) rfl rfl rfl rfl rfl rfl) ?_
  refine walk_nil ?_
  refine dwp_seq ?_
  refine dwp_region ?_
  refine walk_r rfl rfl rfl (op_move (.inl rfl) (ev1 rfl)) ?_
  refine walk_r rfl rfl rfl (op_nc rfl (ev1 rfl) (fun s v h => by cases h; exact ⟨_, rfl⟩)) ?_
  refine walk_r rfl rfl rfl (op_fa rfl fo86_0 (ev1 rfl)) ?_
  refine walk_r rfl rfl rfl (op_fa rfl fo26_3 (ev1 rfl)) ?_
  refine walk_r rfl rfl rfl (op_ldm rfl tb4 (ev1 rfl) rfl rfl) ?_
  refine walk_r rfl rfl rfl (op_not rfl (ev1 rfl)) ?_
  refine walk_r rfl rfl rfl (dop_call [] [] [] rfl (ev1 rfl) (ec (ev1 rfl) (ec (ev1 rfl) en)) rfl rfl (need_ok _ _ (by rw [hd]; rfl)) rfl rfl rfl rfl rfl rfl) ?_
  refine walk_nil ?_
  refine dwp_seq ?_
  refine dwp_drawP 6 [([], []), ([], []), ([3], []), ([], []), ([], []), ([3], [])] mixed (by kernel_rfl) rfl rfl ?_
  refine lex_r rfl rfl (dop_call [] [] [] rfl (ev1 rfl) en rfl rfl (does_d) rfl rfl rfl rfl rfl rfl) ?_
  refine lex_r rfl rfl (op_fa rfl fo44_0 (ev1 rfl)) ?_
  refine lex_r rfl rfl (op_ldm rfl tb3 (ev1 rfl) rfl rfl) ?_
  refine lex_r rfl rfl (op_ixw 1 rfl aw97 (ev1 rfl) (ev1 rfl) (fun _ => rfl) (by decide) rfl) ?_
  refine lex_r rfl rfl (op_move (.inl rfl) (ev1 rfl)) ?_
  refine lex_r rfl rfl (op_ldmw rfl tb44 (ev1 rfl) rfl rfl) ?_
  refine lex_nil ⟨_, _, _, rfl, dop_callP [0, 1, 2] [] [] rfl (ev1 rfl) (ec (ev1 rfl) (ec (ev1 rfl) en)) rfl (by exact mfits _ _ ⟨rfl, rfl, (by first | exact rfl | exact arx_fits rfl rfl (vwL_flat (fun _ => rfl) _) | exact arxr_fits rfl rfl (nlL_flatR (fun _ => rfl) _) | exact arxg_fits rfl rfl (fun _ => rfl) | exact arxs_fits rfl rfl (fun _ => rfl)), trivial⟩) (append_full s.B s.f s.g s.h dn fu ⟨1, z, b⟩ Q.length Q hG.file hG.wait rfl hw hb (mayW_in (mayO_w ho (by show (1 : Int) ≠ 4; decide))).2 hob hfu) rfl rfl rfl (by exact (wrc rfl (wrc rfl (wrc (by first | exact rfl | exact sb_arx (fun _ => rfl) | exact sb_arxr (nlL_flatR (fun _ => rfl) _) | exact sb_arxg (fun _ => rfl) | exact sb_arxs (fun _ => rfl)) rfl)))) rfl rfl, ?_⟩
  refine kdef (dturn_caught [4] [] rfl rfl rfl (tryf_caught _ _) rfl rfl rfl rfl rfl) ?_
  refine kend [0, 1, 2] (rs1 rfl (rv_1 tb31 rfl rfl rfl)) rfl rfl ?_ ⟨?_, ?_, ?_, trivial⟩
  rfl
  all_goals first | exact rfl | exact mixl_fits (m := 3) rfl rfl (cG_lt (by decide) rfl) | exact ox_fits rfl rfl rfl
set_option maxRecDepth 4000 in
set_option maxHeartbeats 1000000 in
theorem try_1_full (s : DSt) (dn : Bool) (fu : Int) (z : Int) (b : List Nat) (Q : List (DOpn × Nat)) (ho : mayO ⟨1, z, b⟩ = true) (hd : dn = false) (hG : GOk s Q) (hw : ∀ o ∈ Q.map Prod.fst, mayW o = true) (hb : fewB (szs s.f) (Q.map Prod.fst)) (hob : b.length ≤ 10000000) (hfu : ((afts (szs s.f) (Q.map Prod.fst)).getD z.toNat 0 + b.length ≤ 4194304)) (hq : ¬ Q.length < 4096) : DFun Try.prog 57 [.loc 1 0, .agg (oD (⟨1, z, b⟩ : DOpn))] [.fam (s).B, .mix 86 (cG ((s).g) ((s).h) (.arr 2) dn fu), .arx 44 3 Q.length (Q.flatMap (oF 0))] (.val (.int .i64 6)) [.fam (s).B, .mix 86 (cG ((s).g) ((s).h) (.arr 2) dn fu), .arx 44 3 Q.length (Q.flatMap (oF 0))] := by
  refine dcalls_body (N := 23) 3 (by kernel_rfl) Try.func57 rfl rfl rfl (by simp only [fr0, Nat.zero_add, Nat.reduceAdd]; exact rfl) rfl fun s0 hs0 => ?_
  refine dbody_seq rfl hs0 ?_
  refine dwp_holes 2 (by simp only [holes, List.cons_append, List.nil_append]; exact rfl) ?_
  refine dwp_region ?_
  refine walk_w rfl rfl rfl (op_boxam 3 rfl (ev1 rfl) rfl) (by simp only [upd, List.set_cons_zero, List.set_cons_succ]; exact rfl) ?_
  refine walk_w rfl rfl rfl (op_alloc 4 rfl zr31 rfl) (by simp only [upd, List.set_cons_zero, List.set_cons_succ]; exact rfl) ?_
  refine walk_nil ?_
  refine dbody_defer (l0 := [_]) rfl rfl rfl rfl rfl hs0 ?_
  refine walk_r rfl rfl rfl (op_mkf rfl en (ec (ev1 rfl) en)) ?_
  refine walk_nil ⟨_, _, _, 5, ev1 rfl, Nat.le_trans hs0 (by decide), rfl, ?_⟩
  have hs1 : s0.M.length ≤ 5 := Nat.le_trans hs0 (by decide)
  refine dbody_end rfl hs0 ?_
  refine dwp_seq ?_
  refine dwp_region ?_
  refine walk_r rfl rfl rfl (op_ldmw rfl tb44 (ev1 rfl) rfl rfl) ?_
  refine walk_r rfl rfl rfl (dop_call [] [] [] rfl (ev1 rfl) (ec (ev1 rfl) en) rfl rfl (maybe_d ⟨1, z, b⟩) rfl rfl rfl rfl rfl rfl) ?_
  refine walk_r rfl rfl rfl (dop_call [] [] [] rfl (ev1 rfl) (ec (ev1 rfl) (ec (ev1 rfl) en)) rfl rfl (need_ok _ _ (ho)) rfl rfl rfl rfl rfl rfl) ?_
  refine walk_nil ?_
  refine dwp_seq ?_
  refine dwp_region ?_
  refine walk_r rfl rfl rfl (op_move (.inl rfl) (ev1 rfl)) ?_
  refine walk_r rfl rfl rfl (op_nc rfl (ev1 rfl) (fun s v h => by cases h; exact ⟨_, rfl⟩)) ?_
  refine walk_r rfl rfl rfl (op_fa rfl fo86_0 (ev1 rfl)) ?_
  refine walk_r rfl rfl rfl (op_fa rfl fo26_3 (ev1 rfl)) ?_
  refine walk_r rfl rfl rfl (op_ldm rfl tb4 (ev1 rfl) rfl rfl) ?_
  refine walk_r rfl rfl rfl (op_not rfl (ev1 rfl)) ?_
  refine walk_r rfl rfl rfl (dop_call [] [] [] rfl (ev1 rfl) (ec (ev1 rfl) (ec (ev1 rfl) en)) rfl rfl (need_ok _ _ (by rw [hd]; rfl)) rfl rfl rfl rfl rfl rfl) ?_
  refine walk_nil ?_
  refine dwp_seq ?_
  refine dwp_drawP 6 [([], []), ([], []), ([3], []), ([], []), ([], []), ([3], [])] mixed (by kernel_rfl) rfl rfl ?_
  refine lex_r rfl rfl (dop_call [] [] [] rfl (ev1 rfl) en rfl rfl (does_d) rfl rfl rfl rfl rfl rfl) ?_
  refine lex_r rfl rfl (op_fa rfl fo44_0 (ev1 rfl)) ?_
  refine lex_r rfl rfl (op_ldm rfl tb3 (ev1 rfl) rfl rfl) ?_
  refine lex_r rfl rfl (op_ixw 1 rfl aw97 (ev1 rfl) (ev1 rfl) (fun _ => rfl) (by decide) rfl) ?_
  refine lex_r rfl rfl (op_move (.inl rfl) (ev1 rfl)) ?_
  refine lex_r rfl rfl (op_ldmw rfl tb44 (ev1 rfl) rfl rfl) ?_
  refine lex_nil ⟨_, _, _, rfl, dop_callP [0, 1, 2] [] [] rfl (ev1 rfl) (ec (ev1 rfl) (ec (ev1 rfl) en)) rfl (by exact mfits _ _ ⟨rfl, rfl, (by first | exact rfl | exact arx_fits rfl rfl (vwL_flat (fun _ => rfl) _) | exact arxr_fits rfl rfl (nlL_flatR (fun _ => rfl) _) | exact arxg_fits rfl rfl (fun _ => rfl) | exact arxs_fits rfl rfl (fun _ => rfl)), trivial⟩) (append_wfull s.B s.f s.g s.h dn fu ⟨1, z, b⟩ Q.length Q hG.file hG.wait rfl hw hb (mayW_in (mayO_w ho (by show (1 : Int) ≠ 4; decide))).2 hob hfu hq) rfl rfl rfl (by exact (wrc rfl (wrc rfl (wrc (by first | exact rfl | exact sb_arx (fun _ => rfl) | exact sb_arxr (nlL_flatR (fun _ => rfl) _) | exact sb_arxg (fun _ => rfl) | exact sb_arxs (fun _ => rfl)) rfl)))) rfl rfl, ?_⟩
  refine kdef (dturn_caught [4] [] rfl rfl rfl (tryf_caught _ _) rfl rfl rfl rfl rfl) ?_
  refine kend [0, 1, 2] (rs1 rfl (rv_1 tb31 rfl rfl rfl)) rfl rfl ?_ ⟨?_, ?_, ?_, trivial⟩
  rfl
  all_goals first | exact rfl | exact mixl_fits (m := 3) rfl rfl (cG_lt (by decide) rfl) | exact ox_fits rfl rfl rfl
set_option maxRecDepth 4000 in
set_option maxHeartbeats 1000000 in
theorem try_1_down (s : DSt) (dn : Bool) (fu : Int) (z : Int) (b : List Nat) (Q : List (DOpn × Nat)) (ho : mayO ⟨1, z, b⟩ = true) (hd : dn = false) (hG : GOk s Q) (hw : ∀ o ∈ Q.map Prod.fst, mayW o = true) (hb : fewB (szs s.f) (Q.map Prod.fst)) (hob : b.length ≤ 10000000) (hfu : ((afts (szs s.f) (Q.map Prod.fst)).getD z.toNat 0 + b.length ≤ 4194304)) (hq : Q.length < 4096) (hf1 : fu = 1) : DFun Try.prog 57 [.loc 1 0, .agg (oD (⟨1, z, b⟩ : DOpn))] [.fam (s).B, .mix 86 (cG ((s).g) ((s).h) (.arr 2) dn fu), .arx 44 3 Q.length (Q.flatMap (oF 0))] (.val (.int .i64 321)) [.fam (s).B, .mix 86 (cG ((s).g) ((s).h) (.arr 2) true 0), .arx 44 3 Q.length (Q.flatMap (oF 0))] := by
  refine dcalls_body (N := 23) 3 (by kernel_rfl) Try.func57 rfl rfl rfl (by simp only [fr0, Nat.zero_add, Nat.reduceAdd]; exact rfl) rfl fun s0 hs0 => ?_
  refine dbody_seq rfl hs0 ?_
  refine dwp_holes 2 (by simp only [holes, List.cons_append, List.nil_append]; exact rfl) ?_
  refine dwp_region ?_
  refine walk_w rfl rfl rfl (op_boxam 3 rfl (ev1 rfl) rfl) (by simp only [upd, List.set_cons_zero, List.set_cons_succ]; exact rfl) ?_
  refine walk_w rfl rfl rfl (op_alloc 4 rfl zr31 rfl) (by simp only [upd, List.set_cons_zero, List.set_cons_succ]; exact rfl) ?_
  refine walk_nil ?_
  refine dbody_defer (l0 := [_]) rfl rfl rfl rfl rfl hs0 ?_
  refine walk_r rfl rfl rfl (op_mkf rfl en (ec (ev1 rfl) en)) ?_
  refine walk_nil ⟨_, _, _, 5, ev1 rfl, Nat.le_trans hs0 (by decide), rfl, ?_⟩
  have hs1 : s0.M.length ≤ 5 := Nat.le_trans hs0 (by decide)
  refine dbody_end rfl hs0 ?_
  refine dwp_seq ?_
  refine dwp_region ?_
  refine walk_r rfl rfl rfl (op_ldmw rfl tb44 (ev1 rfl) rfl rfl) ?_
  refine walk_r rfl rfl rfl (dop_call [] [] [] rfl (ev1 rfl) (ec (ev1 rfl) en) rfl rfl (maybe_d ⟨1, z, b⟩) rfl rfl rfl rfl rfl rfl) ?_
  refine walk_r rfl rfl rfl (dop_call [] [] [] rfl (ev1 rfl) (ec (ev1 rfl) (ec (ev1 rfl) en)) rfl rfl (need_ok _ _ (ho)) rfl rfl rfl rfl rfl rfl) ?_
  refine walk_nil ?_
  refine dwp_seq ?_
  refine dwp_region ?_
  refine walk_r rfl rfl rfl (op_move (.inl rfl) (ev1 rfl)) ?_
  refine walk_r rfl rfl rfl (op_nc rfl (ev1 rfl) (fun s v h => by cases h; exact ⟨_, rfl⟩)) ?_
  refine walk_r rfl rfl rfl (op_fa rfl fo86_0 (ev1 rfl)) ?_
  refine walk_r rfl rfl rfl (op_fa rfl fo26_3 (ev1 rfl)) ?_
  refine walk_r rfl rfl rfl (op_ldm rfl tb4 (ev1 rfl) rfl rfl) ?_
  refine walk_r rfl rfl rfl (op_not rfl (ev1 rfl)) ?_
  refine walk_r rfl rfl rfl (dop_call [] [] [] rfl (ev1 rfl) (ec (ev1 rfl) (ec (ev1 rfl) en)) rfl rfl (need_ok _ _ (by rw [hd]; rfl)) rfl rfl rfl rfl rfl rfl) ?_
  refine walk_nil ?_
  refine dwp_seq ?_
  refine dwp_drawP 6 [([], []), ([], []), ([3], []), ([], []), ([], []), ([3], [])] mixed (by kernel_rfl) rfl rfl ?_
  refine lex_r rfl rfl (dop_call [] [] [] rfl (ev1 rfl) en rfl rfl (does_d) rfl rfl rfl rfl rfl rfl) ?_
  refine lex_r rfl rfl (op_fa rfl fo44_0 (ev1 rfl)) ?_
  refine lex_r rfl rfl (op_ldm rfl tb3 (ev1 rfl) rfl rfl) ?_
  refine lex_r rfl rfl (op_ixw 1 rfl aw97 (ev1 rfl) (ev1 rfl) (fun _ => rfl) (by decide) rfl) ?_
  refine lex_r rfl rfl (op_move (.inl rfl) (ev1 rfl)) ?_
  refine lex_r rfl rfl (op_ldmw rfl tb44 (ev1 rfl) rfl rfl) ?_
  refine lex_nil ⟨_, _, _, rfl, dop_callP [0, 1, 2] [] [] rfl (ev1 rfl) (ec (ev1 rfl) (ec (ev1 rfl) en)) rfl (by exact mfits _ _ ⟨rfl, rfl, (by first | exact rfl | exact arx_fits rfl rfl (vwL_flat (fun _ => rfl) _) | exact arxr_fits rfl rfl (nlL_flatR (fun _ => rfl) _) | exact arxg_fits rfl rfl (fun _ => rfl) | exact arxs_fits rfl rfl (fun _ => rfl)), trivial⟩) (append_down s.B s.f s.g s.h dn fu ⟨1, z, b⟩ Q.length Q hG.file hG.wait rfl hw hb (mayW_in (mayO_w ho (by show (1 : Int) ≠ 4; decide))).2 hob hfu hq hf1) rfl rfl rfl (by exact (wrc rfl (wrc rfl (wrc (by first | exact rfl | exact sb_arx (fun _ => rfl) | exact sb_arxr (nlL_flatR (fun _ => rfl) _) | exact sb_arxg (fun _ => rfl) | exact sb_arxs (fun _ => rfl)) rfl)))) rfl rfl, ?_⟩
  refine kdef (dturn_caught [4] [] rfl rfl rfl (tryf_caught _ _) rfl rfl rfl rfl rfl) ?_
  refine kend [0, 1, 2] (rs1 rfl (rv_1 tb31 rfl rfl rfl)) rfl rfl ?_ ⟨?_, ?_, ?_, trivial⟩
  rfl
  all_goals first | exact rfl | exact mixl_fits (m := 3) rfl rfl (cG_lt (by decide) rfl) | exact ox_fits rfl rfl rfl
set_option maxRecDepth 4000 in
set_option maxHeartbeats 1000000 in
theorem try_1_ok (s : DSt) (dn : Bool) (fu : Int) (z : Int) (b : List Nat) (Q : List (DOpn × Nat)) (ho : mayO ⟨1, z, b⟩ = true) (hd : dn = false) (hG : GOk s Q) (hw : ∀ o ∈ Q.map Prod.fst, mayW o = true) (hb : fewB (szs s.f) (Q.map Prod.fst)) (hob : b.length ≤ 10000000) (hfu : ((afts (szs s.f) (Q.map Prod.fst)).getD z.toNat 0 + b.length ≤ 4194304)) (hq : Q.length < 4096) (hf1 : fu ≠ 1) (hf0 : 0 ≤ fu ∧ fu ≤ 4096) : DFun Try.prog 57 [.loc 1 0, .agg (oD (⟨1, z, b⟩ : DOpn))] [.fam (s).B, .mix 86 (cG ((s).g) ((s).h) (.arr 2) dn fu), .arx 44 3 Q.length (Q.flatMap (oF 0))] (.val (.int .i64 0)) [.fam (s.B ++ [rowB b]), .mix 86 (cG (s.g) (s.h) (.arr 3) dn (fuB fu)), .gone, .arx 44 3 (Q.length + 1) ((Q ++ [((⟨1, z, b⟩ : DOpn), s.B.length)]).flatMap (oF 0))] := by
  refine dcalls_body (N := 23) 3 (by kernel_rfl) Try.func57 rfl rfl rfl (by simp only [fr0, Nat.zero_add, Nat.reduceAdd]; exact rfl) rfl fun s0 hs0 => ?_
  refine dbody_seq rfl hs0 ?_
  refine dwp_holes 2 (by simp only [holes, List.cons_append, List.nil_append]; exact rfl) ?_
  refine dwp_region ?_
  refine walk_w rfl rfl rfl (op_boxam 3 rfl (ev1 rfl) rfl) (by simp only [upd, List.set_cons_zero, List.set_cons_succ]; exact rfl) ?_
  refine walk_w rfl rfl rfl (op_alloc 4 rfl zr31 rfl) (by simp only [upd, List.set_cons_zero, List.set_cons_succ]; exact rfl) ?_
  refine walk_nil ?_
  refine dbody_defer (l0 := [_]) rfl rfl rfl rfl rfl hs0 ?_
  refine walk_r rfl rfl rfl (op_mkf rfl en (ec (ev1 rfl) en)) ?_
  refine walk_nil ⟨_, _, _, 5, ev1 rfl, Nat.le_trans hs0 (by decide), rfl, ?_⟩
  have hs1 : s0.M.length ≤ 5 := Nat.le_trans hs0 (by decide)
  refine dbody_end rfl hs0 ?_
  refine dwp_seq ?_
  refine dwp_region ?_
  refine walk_r rfl rfl rfl (op_ldmw rfl tb44 (ev1 rfl) rfl rfl) ?_
  refine walk_r rfl rfl rfl (dop_call [] [] [] rfl (ev1 rfl) (ec (ev1 rfl) en) rfl rfl (maybe_d ⟨1, z, b⟩) rfl rfl rfl rfl rfl rfl) ?_
  refine walk_r rfl rfl rfl (dop_call [] [] [] rfl (ev1 rfl) (ec (ev1 rfl) (ec (ev1 rfl) en)) rfl rfl (need_ok _ _ (ho)) rfl rfl rfl rfl rfl rfl) ?_
  refine walk_nil ?_
  refine dwp_seq ?_
  refine dwp_region ?_
  refine walk_r rfl rfl rfl (op_move (.inl rfl) (ev1 rfl)) ?_
  refine walk_r rfl rfl rfl (op_nc rfl (ev1 rfl) (fun s v h => by cases h; exact ⟨_, rfl⟩)) ?_
  refine walk_r rfl rfl rfl (op_fa rfl fo86_0 (ev1 rfl)) ?_
  refine walk_r rfl rfl rfl (op_fa rfl fo26_3 (ev1 rfl)) ?_
  refine walk_r rfl rfl rfl (op_ldm rfl tb4 (ev1 rfl) rfl rfl) ?_
  refine walk_r rfl rfl rfl (op_not rfl (ev1 rfl)) ?_
  refine walk_r rfl rfl rfl (dop_call [] [] [] rfl (ev1 rfl) (ec (ev1 rfl) (ec (ev1 rfl) en)) rfl rfl (need_ok _ _ (by rw [hd]; rfl)) rfl rfl rfl rfl rfl rfl) ?_
  refine walk_nil ?_
  refine dwp_seq ?_
  refine dwp_holes 1 (by simp only [holes, List.cons_append, List.nil_append]; exact rfl) ?_
  refine dwp_draw [([], []), ([], []), ([3], []), ([], []), ([], []), ([3], []), ([0, 1, 2, 5], [0, 1, 2, 5])] mixed (by kernel_rfl) ?_
  refine lex_r rfl rfl (dop_call [] [] [] rfl (ev1 rfl) en rfl rfl (does_d) rfl rfl rfl rfl rfl rfl) ?_
  refine lex_r rfl rfl (op_fa rfl fo44_0 (ev1 rfl)) ?_
  refine lex_r rfl rfl (op_ldm rfl tb3 (ev1 rfl) rfl rfl) ?_
  refine lex_r rfl rfl (op_ixw 1 rfl aw97 (ev1 rfl) (ev1 rfl) (fun _ => rfl) (by decide) rfl) ?_
  refine lex_r rfl rfl (op_move (.inl rfl) (ev1 rfl)) ?_
  refine lex_r rfl rfl (op_ldmw rfl tb44 (ev1 rfl) rfl rfl) ?_
  refine lex_w rfl rfl (dop_call [0, 1, 2] [] [5] rfl (ev1 rfl) (ec (ev1 rfl) (ec (ev1 rfl) en)) rfl (by exact mfits _ _ ⟨rfl, rfl, (by first | exact rfl | exact arx_fits rfl rfl (vwL_flat (fun _ => rfl) _) | exact arxr_fits rfl rfl (nlL_flatR (fun _ => rfl) _) | exact arxg_fits rfl rfl (fun _ => rfl) | exact arxs_fits rfl rfl (fun _ => rfl)), trivial⟩) (append_ok s.B s.f s.g s.h dn fu ⟨1, z, b⟩ Q.length Q hG.file hG.wait rfl hw hb (mayW_in (mayO_w ho (by show (1 : Int) ≠ 4; decide))).2 hob hfu hq hf1 hf0) rfl rfl rfl (by exact (wrc rfl (wrc rfl (wrc rfl (wrc (by first | exact rfl | exact sb_arx (fun _ => rfl) | exact sb_arxr (nlL_flatR (fun _ => rfl) _) | exact sb_arxg (fun _ => rfl) | exact sb_arxs (fun _ => rfl)) rfl))))) rfl rfl) rfl (by simp only [upd, List.set_cons_zero, List.set_cons_succ]; exact rfl) ?_
  refine lex_nil ?_
  refine dwp_seq ?_
  refine dwp_region ?_
  refine walk_s rfl rfl (op_stwi rfl tb31 (ev1 rfl) (ev1 rfl) rfl) (by simp only [upd, List.set_cons_zero, List.set_cons_succ]; exact rfl) ?_
  refine walk_nil ?_
  refine dwp_ret ?_
  refine kdef (dturn_idle [4] [] rfl rfl (tryf_idle _) rfl rfl rfl rfl rfl) ?_
  refine kend [0, 1, 2, 5] (rs1 rfl (rv_1 tb31 rfl rfl rfl)) rfl rfl ?_ ⟨?_, ?_, ?_, ?_, trivial⟩
  rfl
  all_goals first | exact rfl | exact mixl_fits (m := 3) rfl rfl (cG_lt (by decide) rfl) | exact ox_fits rfl rfl rfl | exact ox_fits (Q := Q ++ [((⟨1, z, b⟩ : DOpn), s.B.length)]) rfl rfl rfl
end Go.Proofs.Ytjecmkaggobcjaa

namespace Go.Proofs.Ytjecmkaggobcjaa
set_option linter.unusedVariables false
set_option linter.unusedSimpArgs false
open Go.RowKit
theorem chof_Q (f : Nat → List Nat) (h : Int) (w : List DOpn) (dn : Bool) (fu : Int) (hF : ∀ i, i < 4 → (f i).length ≤ 100000000) (hb : fewB (szs f) w) : DFun Try.prog 56 [.agg (dD f h w dn fu)] [.fam []] (.loc 1 0) [.fam (fB f 4 ++ famO w), .mix 86 (cG (fun i => i) h (.arr 2) dn fu), .arx 44 3 (w.zipIdx 4).length ((w.zipIdx 4).flatMap (oF 0))] := by
  rw [List.length_zipIdx]
  exact chof_F f h w dn fu hF hb
set_option maxRecDepth 4000 in
set_option maxHeartbeats 1000000 in
theorem run_no (f : Nat → List Nat) (h : Int) (w : List DOpn) (dn : Bool) (fu : Int) (hb : fewB (szs f) w) (l : List DOpn) (hl : l.length ≤ 10000) (hc : ¬ chkB f h w dn fu = true) : DFun Try.prog 26 [.agg (dD f h w dn fu), .slm 3 l.length (l.flatMap oD)] [] (.tup [.val (.agg #[.slice none 0 0, .slice none 0 0, .slice none 0 0, .slice none 0 0, .int .i64 0, .slice none 0 0, .bool false, .int .i64 0]), .val (.int .i64 0), .val (.int .i64 320)]) [] := by
  refine dcalls_go (N := 54) 0 (by kernel_rfl) Try.func26 rfl rfl rfl (by simp only [fr0, Nat.zero_add, Nat.reduceAdd]; exact rfl) rfl fun s0 hs0 => ?_
  refine dwp_lenm (t := 1) rfl fun hl1 hL1 => ?_
  refine dwp_seq ?_
  refine dwp_holes 1 (by simp only [holes, List.cons_append, List.nil_append]; exact rfl) ?_
  refine dwp_region ?_
  refine walk_r rfl rfl rfl (op_boxf rfl rfl (ev1 rfl)) ?_
  refine walk_w rfl rfl rfl (op_alloc 0 rfl zr26 rfl) (by simp only [upd, List.set_cons_zero, List.set_cons_succ]; exact rfl) ?_
  refine walk_r rfl rfl rfl (op_move (.inr rfl) (ev1 rfl)) ?_
  refine walk_r rfl rfl rfl (op_move (.inr rfl) (ev1 rfl)) ?_
  refine walk_nil ?_
  refine dwp_seq ?_
  refine dwp_seq ?_
  refine dwp_region ?_
  refine walk_r rfl rfl rfl (op_lddr rfl tb26 (ev1 rfl) rfl rfl) ?_
  refine walk_r rfl rfl rfl (dop_call [] [] [] rfl (ev1 rfl) (ec (ev1 rfl) en) rfl rfl (check_d f h w dn fu hb) rfl rfl rfl rfl rfl rfl) ?_
  refine walk_r rfl rfl rfl (op_move (.inr rfl) (ev1 rfl)) ?_
  refine walk_nil ?_
  refine dwp_seq ?_
  refine dwp_region ?_
  refine walk_r rfl rfl rfl (op_move (.inl rfl) (ev1 rfl)) ?_
  refine walk_r rfl rfl rfl (op_neq rfl (ev1 rfl) (ev1 rfl)) ?_
  refine walk_nil ?_
  refine dwp_if_t rfl (by rw [if_neg hc]; rfl) ?_
  refine dwp_seq ?_
  refine dwp_region ?_
  refine walk_r rfl rfl rfl (op_build0 rfl fl26 zr26) ?_
  refine walk_r rfl rfl rfl (op_move (.inl rfl) (ev1 rfl)) ?_
  refine walk_s rfl rfl (op_stwa rfl tb26 (ev1 rfl) (ev1 rfl) rfl rfl rfl rfl) (by simp only [upd, List.set_cons_zero, List.set_cons_succ]; exact rfl) ?_
  refine walk_r rfl rfl rfl (op_move (.inr rfl) (ev1 rfl)) ?_
  refine walk_r rfl rfl rfl (op_move (.inr rfl) (ev1 rfl)) ?_
  refine walk_nil ?_
  refine dwp_ret ?_
  refine kend0 (rs3 rfl (rv_w tb26 rfl rfl rfl) (rv_t rfl) (rv_t rfl)) rfl ?_
  rw [if_neg hc]
end Go.Proofs.Ytjecmkaggobcjaa

namespace Go.Proofs.Ytjecmkaggobcjaa
set_option linter.unusedVariables false
set_option linter.unusedSimpArgs false
open Go.RowKit
def tornO (o : DOpn) (t : Nat) : DOpn := ⟨o.kd, o.fl, o.b.take (min t o.b.length)⟩
set_option maxRecDepth 4000 in
set_option maxHeartbeats 1000000 in
theorem settledD_1 (Bs : List Mem) (a : Nat) (b : List Nat) (o : DOpn) (ha : Bs[a]? = some (rowB b)) (k1 : o.kd = 1) (hb : b.length + o.b.length ≤ 1000000000000) : DFun Try.prog 53 [.farr 0 a, .agg (oD o)] [.fam Bs] (.farr 0 Bs.length) [.fam (Bs.set a .gone ++ [rowB (setB b o)])] := by
  refine dcalls_go (N := 16) 1 (by kernel_rfl) Try.func53 rfl rfl rfl (by simp only [fr0, Nat.zero_add, Nat.reduceAdd]; exact rfl) rfl fun s0 hs0 => ?_
  refine dwp_seq ?_
  refine dwp_holes 1 (by simp only [holes, List.cons_append, List.nil_append]; exact rfl) ?_
  refine dwp_region ?_
  refine walk_w rfl rfl rfl (op_boxam 1 rfl (ev1 rfl) rfl) (by simp only [upd, List.set_cons_zero, List.set_cons_succ]; exact rfl) ?_
  refine walk_r rfl rfl rfl (op_move (.inr rfl) (ev1 rfl)) ?_
  refine walk_nil ?_
  refine dwp_seq ?_
  refine dwp_seq ?_
  refine dwp_region ?_
  refine walk_r rfl rfl rfl (op_fa rfl fo44_0 (ev1 rfl)) ?_
  refine walk_r rfl rfl rfl (op_ldm rfl tb3 (ev1 rfl) rfl rfl) ?_
  refine walk_nil ?_
  refine dwp_block ?_
  refine dwp_seq ?_
  refine dwp_region ?_
  refine walk_r rfl rfl rfl (op_eql rfl (ev1 rfl) (ev1 rfl)) ?_
  refine walk_r rfl rfl rfl (op_move (.inr rfl) (ev1 rfl)) ?_
  refine walk_nil ?_
  refine dwp_if_t rfl (by simp [k1]) ?_
  refine dwp_seq ?_
  refine dwp_hole ?_
  refine dwp_rel 0 0 (j := 2) rfl rfl (ha) rfl (by simp only [List.cons_append, List.nil_append, List.set_cons_zero, List.set_cons_succ]; exact rfl) ?_
  refine dwp_holes 1 (by simp only [holes, List.cons_append, List.nil_append]; exact rfl) ?_
  refine dwp_region ?_
  refine walk_r rfl rfl rfl (op_move (.inl rfl) (ev1 rfl)) ?_
  refine walk_r rfl rfl rfl (op_fa rfl fo44_2 (ev1 rfl)) ?_
  refine walk_r rfl rfl rfl (op_ldm rfl tb22 (ev1 rfl) rfl rfl) ?_
  refine walk_w rfl rfl rfl (op_app (j := 3) rfl sl22 zr5 rfl (ev1 rfl) (ev1 rfl) src_slf rfl rfl (fun _ => flat_oc (fun _ => rfl) _) (fun _ => ⟨by omega, by omega⟩)) (by simp only [upd, List.set_cons_zero, List.set_cons_succ]; exact rfl) ?_
  refine walk_r rfl rfl rfl (op_move (.inr rfl) (ev1 rfl)) ?_
  refine walk_nil ?_
  refine dwp_abs 4 0 rfl rfl rfl (by simp only [List.cons_append, List.nil_append, List.set_cons_zero, List.set_cons_succ]; exact rfl) ?_
  refine dwp_ret ?_
  refine kend [0] (rs1 rfl (rv_t rfl)) rfl rfl ?_ ⟨?_, trivial⟩
  exact congrArg (D.farr 0) (by rw [List.length_set])
  all_goals first | exact rfl | exact congrArg (fun B => some (Blk.fam (Bs.set a .gone ++ [B]))) (rowB_app k1)
set_option maxRecDepth 4000 in
set_option maxHeartbeats 1000000 in
theorem settle_D1 (Bs : List Mem) (f : Nat → List Nat) (g : Nat → Nat) (h : Int) (dn : Bool) (fu : Int) (o : DOpn) (nq : Nat) (Q : List (DOpn × Nat)) (hg : Bs[g o.fl.toNat]? = some (rowB (f o.fl.toNat))) (k1 : o.kd = 1) (hf : 0 ≤ o.fl ∧ o.fl < 4) (hb : (f o.fl.toNat).length + o.b.length ≤ 1000000000000) : DFun Try.prog 62 [.loc 1 0, .agg (oD o)] [.fam Bs, .mix 86 (cG (g) (h) (.arr 2) dn fu), .arx 44 3 nq (Q.flatMap (oF 0))] (.tup []) [.fam (Bs.set (g o.fl.toNat) .gone ++ [rowB (setB (f o.fl.toNat) o)]), .mix 86 (cG (updG g o.fl.toNat Bs.length) (h) (.arr 2) dn fu), .arx 44 3 nq (Q.flatMap (oF 0))] := by
  refine dcalls_go (N := 30) 3 (by kernel_rfl) Try.func62 rfl rfl rfl (by simp only [fr0, Nat.zero_add, Nat.reduceAdd]; exact rfl) rfl fun s0 hs0 => ?_
  refine dwp_seq ?_
  refine dwp_holes 1 (by simp only [holes, List.cons_append, List.nil_append]; exact rfl) ?_
  refine dwp_region ?_
  refine walk_w rfl rfl rfl (op_boxam 3 rfl (ev1 rfl) rfl) (by simp only [upd, List.set_cons_zero, List.set_cons_succ]; exact rfl) ?_
  refine walk_nil ?_
  refine dwp_seq ?_
  refine dwp_draw [([], []), ([], []), ([3], []), ([], []), ([], []), ([3], []), ([], []), ([], []), ([], []), ([], []), ([1], []), ([3], []), ([0], [0]), ([], []), ([], []), ([], []), ([], []), ([1], [1])] mixed (by kernel_rfl) ?_
  refine lex_r rfl rfl (op_move (.inl rfl) (ev1 rfl)) ?_
  refine lex_r rfl rfl (op_fa rfl fo44_1 (ev1 rfl)) ?_
  refine lex_r rfl rfl (op_ldm rfl tb3 (ev1 rfl) rfl rfl) ?_
  refine lex_r rfl rfl (op_move (.inl rfl) (ev1 rfl)) ?_
  refine lex_r rfl rfl (op_fa rfl fo44_1 (ev1 rfl)) ?_
  refine lex_r rfl rfl (op_ldm rfl tb3 (ev1 rfl) rfl rfl) ?_
  refine lex_r rfl rfl (op_nc rfl (ev1 rfl) (fun s v h => by cases h; exact ⟨_, rfl⟩)) ?_
  refine lex_r rfl rfl (op_fa rfl fo86_0 (ev1 rfl)) ?_
  refine lex_r rfl rfl (op_fa rfl fo26_0 (ev1 rfl)) ?_
  refine lex_r rfl rfl (op_ixl rfl ar23 (ev1 rfl) (ev1 rfl) (fun _ => by omega)) ?_
  refine lex_r rfl rfl (op_ldm rfl tb22 (ev1 rfl) rfl (cG_cell hf)) ?_
  refine lex_r rfl rfl (op_ldmw rfl tb44 (ev1 rfl) rfl rfl) ?_
  refine lex_w rfl rfl (dop_call [0] [] [] rfl (ev1 rfl) (ec (ev1 rfl) (ec (ev1 rfl) en)) rfl rfl (settledD_1 Bs (g o.fl.toNat) (f o.fl.toNat) o hg k1 hb) rfl rfl rfl rfl rfl rfl) rfl (by simp only [upd, List.set_cons_zero, List.set_cons_succ]; exact rfl) ?_
  refine lex_r rfl rfl (op_nc rfl (ev1 rfl) (fun s v h => by cases h; exact ⟨_, rfl⟩)) ?_
  refine lex_r rfl rfl (op_fa rfl fo86_0 (ev1 rfl)) ?_
  refine lex_r rfl rfl (op_fa rfl fo26_0 (ev1 rfl)) ?_
  refine lex_r rfl rfl (op_ixl rfl ar23 (ev1 rfl) (ev1 rfl) (fun _ => by omega)) ?_
  refine lex_s rfl rfl (op_stm rfl tb22 (ev1 rfl) (ev1 rfl) (fun s v h => by cases h <;> exact ⟨rfl, rfl⟩) rfl (by show 0 + 0 + o.fl.toNat * 1 < 8; omega)) rfl (by simp only [upd, List.set_cons_zero, List.set_cons_succ]; exact rfl) ?_
  refine lex_nil ?_
  refine dwp_seq ?_
  rw [cG_set _ hf]
  refine dwp_region ?_
  refine walk_r rfl rfl rfl (op_fa rfl fo44_0 (ev1 rfl)) ?_
  refine walk_r rfl rfl rfl (op_ldm rfl tb3 (ev1 rfl) rfl rfl) ?_
  refine walk_r rfl rfl rfl (op_eql rfl (ev1 rfl) (ev1 rfl)) ?_
  refine walk_nil ?_
  refine dwp_if_f rfl (by simp [k1]) ?_
  refine dwp_skip ?_
  refine kend [0, 1, 2] (res_none rfl) rfl rfl ?_ ⟨?_, ?_, ?_, trivial⟩
  rfl
  all_goals first | exact rfl | exact mixl_fits (m := 3) rfl rfl (cG_lt (by decide) rfl) | exact ox_fits rfl rfl rfl
def outK (s : DSt) (k : Nat) : DSt := ⟨s.B.set k .gone, s.f, s.g, s.h⟩
set_option maxRecDepth 4000 in
set_option maxHeartbeats 1000000 in
theorem tear_1 (s : DSt) (dn : Bool) (fu : Int) (o : DOpn) (k nq t : Nat) (Q : List (DOpn × Nat)) (hg : s.B[s.g o.fl.toNat]? = some (rowB (s.f o.fl.toNat))) (hk : s.B[k]? = some (rowB o.b)) (hne : s.g o.fl.toNat ≠ k) (k1 : o.kd = 1) (hf : 0 ≤ o.fl ∧ o.fl < 4) (hb : (s.f o.fl.toNat).length + o.b.length ≤ 1000000000000) : DFun Try.prog 61 [.loc 1 0, .agg (oFam 0 o k), .val (.int .i64 (t : Int))] [.fam (s).B, .mix 86 (cG ((s).g) ((s).h) (.arr 2) dn fu), .arx 44 3 nq (Q.flatMap (oF 0))] (.tup []) [.fam (stG (outK s k) (tornO o t)).B, .mix 86 (cG ((stG (outK s k) (tornO o t)).g) (s.h) (.arr 2) dn fu), .arx 44 3 nq (Q.flatMap (oF 0))] := by
  refine dcalls_go (N := 24) 3 (by kernel_rfl) Try.func61 rfl rfl rfl (by simp only [fr0, Nat.zero_add, Nat.reduceAdd]; exact rfl) rfl fun s0 hs0 => ?_
  refine dwp_seq ?_
  refine dwp_giveF (l' := oD o) 1 2 rfl rfl rfl (hk) rfl (by simp only [List.cons_append, List.nil_append, List.set_cons_zero, List.set_cons_succ]; exact rfl) ?_
  refine dwp_holes 1 (by simp only [holes, List.cons_append, List.nil_append]; exact rfl) ?_
  refine dwp_region ?_
  refine walk_w rfl rfl rfl (op_boxam 4 rfl (ev1 rfl) rfl) (by simp only [upd, List.set_cons_zero, List.set_cons_succ]; exact rfl) ?_
  refine walk_nil ?_
  refine dwp_seq ?_
  refine dwp_region ?_
  refine walk_r rfl rfl rfl (op_fa rfl fo44_0 (ev1 rfl)) ?_
  refine walk_r rfl rfl rfl (op_ldm rfl tb3 (ev1 rfl) rfl rfl) ?_
  refine walk_r rfl rfl rfl (op_eql rfl (ev1 rfl) (ev1 rfl)) ?_
  refine walk_nil ?_
  refine dwp_if_t rfl (by simp [k1]) ?_
  refine dwp_seq ?_
  refine dwp_region ?_
  refine walk_r rfl rfl rfl (op_move (.inl rfl) (ev1 rfl)) ?_
  refine walk_r rfl rfl rfl (op_fa rfl fo44_2 (ev1 rfl)) ?_
  refine walk_r rfl rfl rfl (op_ldm rfl tb22 (ev1 rfl) rfl rfl) ?_
  refine walk_r rfl rfl rfl (op_len rfl sl22 (ev1 rfl)) ?_
  refine walk_r rfl rfl rfl (op_min rfl (ev1 rfl) (ev1 rfl)) ?_
  refine walk_r rfl rfl rfl (op_move (.inr rfl) (ev1 rfl)) ?_
  refine walk_nil ?_
  refine dwp_seq ?_
  refine dwp_region ?_
  refine walk_r rfl rfl rfl (op_fa rfl fo44_2 (ev1 rfl)) ?_
  refine walk_r rfl rfl rfl (op_ldm rfl tb22 (ev1 rfl) rfl rfl) ?_
  refine walk_r rfl rfl rfl (op_move (.inl rfl) (ev1 rfl)) ?_
  refine walk_r rfl rfl rfl (op_move (.inl rfl) (ev1 rfl)) ?_
  refine walk_r rfl rfl rfl (op_sl3f (j := min t o.b.length) rfl sl22 (ev1 rfl) (ev1 rfl) (ev1 rfl) (fun hp => by first | omega | (simp at hp; omega)) (fun hp => by first | omega | (simp at hp; omega)) (fun hp => by first | omega | (simp at hp; omega)) (fun _ => rfl)) ?_
  refine walk_r rfl rfl rfl (op_fa rfl fo44_2 (ev1 rfl)) ?_
  refine walk_s rfl rfl (op_stm rfl tb22 (ev1 rfl) (ev1 rfl) (fun s v h => by cases h <;> exact ⟨rfl, rfl⟩) rfl (by first | decide | exact Nat.le_of_ble_eq_true rfl | simp)) (by simp only [upd, List.set_cons_zero, List.set_cons_succ]; exact rfl) ?_
  refine walk_nil ?_
  have htl : (tornO o t).b.length ≤ o.b.length := by simp only [tornO, List.length_take]; omega
  refine dwp_region ?_
  refine walk_r rfl rfl rfl (op_move (.inl rfl) (ev1 rfl)) ?_
  refine walk_r rfl rfl rfl (op_ldmw rfl tb44 (ev1 rfl) rfl rfl) ?_
  refine walk_w rfl rfl rfl (dop_call [0, 1, 2] [] [] rfl (ev1 rfl) (ec (ev1 rfl) (ec (ev1 rfl) en)) rfl (by exact mfits _ _ ⟨rfl, rfl, (by first | exact rfl | exact arx_fits rfl rfl (vwL_flat (fun _ => rfl) _) | exact arxr_fits rfl rfl (nlL_flatR (fun _ => rfl) _) | exact arxg_fits rfl rfl (fun _ => rfl) | exact arxs_fits rfl rfl (fun _ => rfl)), trivial⟩) (settle_D1 (outK s k).B s.f s.g s.h dn fu (tornO o t) nq Q (by show (s.B.set k .gone)[s.g o.fl.toNat]? = some (rowB (s.f o.fl.toNat)); rw [List.getElem?_set_ne (Ne.symm hne)]; exact hg) k1 hf (by show (s.f o.fl.toNat).length + _ ≤ _; omega)) rfl rfl rfl (by exact (wrc rfl (wrc rfl (wrc (by first | exact rfl | exact sb_arx (fun _ => rfl) | exact sb_arxr (nlL_flatR (fun _ => rfl) _) | exact sb_arxg (fun _ => rfl) | exact sb_arxs (fun _ => rfl)) rfl)))) rfl rfl) (by simp only [upd, List.set_cons_zero, List.set_cons_succ]; exact rfl) ?_
  refine walk_nil ?_
  refine kend [0, 1, 2] (res_none rfl) rfl rfl ?_ ⟨?_, ?_, ?_, trivial⟩
  rfl
  all_goals first | exact rfl | exact mixl_fits (m := 3) rfl rfl (cG_lt (by decide) rfl) | exact ox_fits rfl rfl rfl
set_option maxRecDepth 4000 in
set_option maxHeartbeats 1000000 in
theorem tear_n (s : DSt) (dn : Bool) (fu : Int) (o : DOpn) (k nq t : Nat) (Q : List (DOpn × Nat)) (k1 : o.kd ≠ 1) : DFun Try.prog 61 [.loc 1 0, .agg (oFam 0 o k), .val (.int .i64 (t : Int))] [.fam (s).B, .mix 86 (cG ((s).g) ((s).h) (.arr 2) dn fu), .arx 44 3 nq (Q.flatMap (oF 0))] (.tup []) [.fam (s).B, .mix 86 (cG ((s).g) ((s).h) (.arr 2) dn fu), .arx 44 3 nq (Q.flatMap (oF 0))] := by
  refine dcalls_go (N := 24) 3 (by kernel_rfl) Try.func61 rfl rfl rfl (by simp only [fr0, Nat.zero_add, Nat.reduceAdd]; exact rfl) rfl fun s0 hs0 => ?_
  refine dwp_seq ?_
  refine dwp_holes 1 (by simp only [holes, List.cons_append, List.nil_append]; exact rfl) ?_
  refine dwp_region ?_
  refine walk_w rfl rfl rfl (op_boxam 3 rfl (ev1 rfl) rfl) (by simp only [upd, List.set_cons_zero, List.set_cons_succ]; exact rfl) ?_
  refine walk_nil ?_
  refine dwp_seq ?_
  refine dwp_region ?_
  refine walk_r rfl rfl rfl (op_fa rfl fo44_0 (ev1 rfl)) ?_
  refine walk_r rfl rfl rfl (op_ldm rfl tb3 (ev1 rfl) rfl rfl) ?_
  refine walk_r rfl rfl rfl (op_eql rfl (ev1 rfl) (ev1 rfl)) ?_
  refine walk_nil ?_
  refine dwp_if_f rfl (by simp [k1]) ?_
  refine dwp_skip ?_
  refine kend [0, 1, 2] (res_none rfl) rfl rfl ?_ ⟨?_, ?_, ?_, trivial⟩
  rfl
  all_goals first | exact rfl | exact mixl_fits (m := 3) rfl rfl (cG_lt (by decide) rfl) | exact ox_fits rfl rfl rfl
def tearS (s : DSt) (o : DOpn) (k t : Nat) : DSt := if o.kd = 1 then stG (outK s k) (tornO o t) else s
theorem tear_d (s : DSt) (dn : Bool) (fu : Int) (o : DOpn) (k nq t : Nat) (Q : List (DOpn × Nat)) (hg : s.B[s.g o.fl.toNat]? = some (rowB (s.f o.fl.toNat))) (hk : s.B[k]? = some (rowB o.b)) (hne : s.g o.fl.toNat ≠ k) (hf : 0 ≤ o.fl ∧ o.fl < 4) (hb : (s.f o.fl.toNat).length + o.b.length ≤ 1000000000000) : DFun Try.prog 61 [.loc 1 0, .agg (oFam 0 o k), .val (.int .i64 (t : Int))] [.fam s.B, .mix 86 (cG s.g s.h (.arr 2) dn fu), .arx 44 3 nq (Q.flatMap (oF 0))] (.tup []) [.fam (tearS s o k t).B, .mix 86 (cG (tearS s o k t).g (tearS s o k t).h (.arr 2) dn fu), .arx 44 3 nq (Q.flatMap (oF 0))] := by
  unfold tearS
  by_cases k1 : o.kd = 1
  · have hh : (stG (outK s k) (tornO o t)).h = s.h := by show doH s.h (tornO o t) = s.h; unfold doH; rw [if_pos (by exact k1)]
    rw [if_pos k1, hh]
    exact tear_1 s dn fu o k nq t Q hg hk hne k1 hf hb
  · rw [if_neg k1]
    exact tear_n s dn fu o k nq t Q k1
end Go.Proofs.Ytjecmkaggobcjaa

namespace Go.Proofs.Ytjecmkaggobcjaa
set_option linter.unusedVariables false
set_option linter.unusedSimpArgs false
open Go.RowKit
noncomputable def faA : Code := rfA (pth [1, 0, 1, 1, 1, 1, 1, 0, 1, 0] (bodyOf Try.f31))
noncomputable def faB : Code := rfB (pth [1, 0, 1, 1, 1, 1, 1, 0, 1, 0] (bodyOf Try.f31))
set_option maxRecDepth 4000 in
set_option maxHeartbeats 1000000 in
theorem faRound_go (s : DSt) (dn : Bool) (fu : Int) (nq : Nat) (Q : List (DOpn × Nat)) (keep t : Nat) (a : Nat) (o : DOpn) (k : Nat) (hG : GOk s Q) (hq : (o, k) ∈ Q) (ho : mayW o = true) (hb : (s.f o.fl.toNat).length + o.b.length ≤ 1000000000000) (hne : a ≠ keep) : DRound Try.prog 0 [.val (.int .i64 (a : Int)), .agg (oFam 2 o k)] [.lp 55 [(4, .loc 5 0), (5, .loc 6 0), (8, .loc 1 0)] #[27, 28] faA faB .ready none, .mix 82 [.loc 3 0], .fam (s).B, .mix 86 (cGm 2 (s).g (s).h (.arr 4) dn fu), .arx 44 3 nq (Q.flatMap (oF 2)), .flat 3 [.int .i64 (keep : Int)], .flat 3 [.int .i64 (t : Int)]] true [.lp 55 [(4, .loc 5 0), (5, .loc 6 0), (8, .loc 1 0)] #[27, 28] faA faB .ready none, .mix 82 [.loc 3 0], .fam ((stG s o)).B, .mix 86 (cGm 2 ((stG s o)).g ((stG s o)).h (.arr 4) dn fu), .arx 44 3 nq (Q.flatMap (oF 2)), .flat 3 [.int .i64 (keep : Int)], .flat 3 [.int .i64 (t : Int)]] := by
  refine dround_go 7 rfl rfl (by simp) rfl rfl fun s0 hs0 => ?_
  refine dwp_seq ?_
  refine dwp_region ?_
  refine walk_r rfl rfl rfl (op_move (.inr rfl) (ev1 rfl)) ?_
  refine walk_nil ?_
  refine dwp_holes 1 (by simp only [holes, List.cons_append, List.nil_append]; exact rfl) ?_
  refine dwp_region ?_
  refine walk_w rfl rfl rfl (op_alloc 7 rfl zr44 rfl) (by simp only [upd, List.set_cons_zero, List.set_cons_succ]; exact rfl) ?_
  refine walk_s rfl rfl (op_stam rfl tb44 (ev1 rfl) (ev1 rfl) rfl rfl rfl rfl) (by simp only [upd, List.set_cons_zero, List.set_cons_succ]; exact rfl) ?_
  refine walk_nil ?_
  refine ⟨rfl, ?_⟩
  simp only [List.set_cons_zero, List.set_cons_succ]
  refine dwp_block ?_
  refine dwp_seq ?_
  refine dwp_seq ?_
  refine dwp_region ?_
  refine walk_r rfl rfl rfl (op_move (.inl rfl) (ev1 rfl)) ?_
  refine walk_r rfl rfl rfl (op_ldo rfl tb3 (ev1 rfl) rfl rfl) ?_
  refine walk_r rfl rfl rfl (op_eql rfl (ev1 rfl) (ev1 rfl)) ?_
  refine walk_nil ?_
  refine dwp_if_f rfl (by simp; omega) ?_
  refine dwp_skip ?_
  refine dwp_region ?_
  refine walk_r rfl rfl rfl (op_ldm rfl tb82 (ev1 rfl) rfl rfl) ?_
  refine walk_r rfl rfl rfl (op_ldmw rfl tb44 (ev1 rfl) rfl rfl) ?_
  refine walk_w rfl rfl rfl (dop_call [2, 3, 4] [] [] rfl (ev1 rfl) (ec (ev1 rfl) (ec (ev1 rfl) en)) rfl (by exact mfits _ _ ⟨rfl, rfl, (by first | exact rfl | exact arx_fits rfl rfl (vwL_flat (fun _ => rfl) _) | exact arxr_fits rfl rfl (nlL_flatR (fun _ => rfl) _) | exact arxg_fits rfl rfl (fun _ => rfl) | exact arxs_fits rfl rfl (fun _ => rfl)), trivial⟩) (settle_d s.B s.f s.g s.h dn fu o k nq Q (hG.file _ (by have := (mayW_in ho).2; omega)) (hG.wait _ hq) (hG.ne _ (by have := (mayW_in ho).2; omega) _ hq) ho hb) rfl rfl rfl (by exact (wrc rfl (wrc rfl (wrc (by first | exact rfl | exact sb_arx (fun _ => rfl) | exact sb_arxr (nlL_flatR (fun _ => rfl) _) | exact sb_arxg (fun _ => rfl) | exact sb_arxs (fun _ => rfl)) rfl)))) rfl rfl) (by simp only [upd, List.set_cons_zero, List.set_cons_succ]; exact rfl) ?_
  refine walk_nil ?_
  refine ⟨by first | rfl | assumption | simp_all, rfl, [0, 1, 2, 3, 4, 5, 6], rfl, ⟨rfl, rfl, rfl, rfl, ox_fits rfl rfl rfl, rfl, rfl, trivial⟩⟩
set_option maxRecDepth 4000 in
set_option maxHeartbeats 1000000 in
theorem faRound_stop (s : DSt) (dn : Bool) (fu : Int) (nq : Nat) (Q : List (DOpn × Nat)) (keep t : Nat) (a : Nat) (o : DOpn) (k : Nat) (hG : GOk s Q) (hq : (o, k) ∈ Q) (ho : mayW o = true) (hb : (s.f o.fl.toNat).length + o.b.length ≤ 1000000000000) (hne : a = keep) : DRound Try.prog 0 [.val (.int .i64 (a : Int)), .agg (oFam 2 o k)] [.lp 55 [(4, .loc 5 0), (5, .loc 6 0), (8, .loc 1 0)] #[27, 28] faA faB .ready none, .mix 82 [.loc 3 0], .fam (s).B, .mix 86 (cGm 2 (s).g (s).h (.arr 4) dn fu), .arx 44 3 nq (Q.flatMap (oF 2)), .flat 3 [.int .i64 (keep : Int)], .flat 3 [.int .i64 (t : Int)]] false [.lp 55 [(4, .loc 5 0), (5, .loc 6 0), (8, .loc 1 0)] #[27, 28] faA faB .done (some (.exit 0)), .mix 82 [.loc 3 0], .fam ((tearS s o k t)).B, .mix 86 (cGm 2 ((tearS s o k t)).g ((tearS s o k t)).h (.arr 4) dn fu), .arx 44 3 nq (Q.flatMap (oF 2)), .flat 3 [.int .i64 (keep : Int)], .flat 3 [.int .i64 (t : Int)]] := by
  refine dround_go 7 rfl rfl (by simp) rfl rfl fun s0 hs0 => ?_
  refine dwp_seq ?_
  refine dwp_region ?_
  refine walk_r rfl rfl rfl (op_move (.inr rfl) (ev1 rfl)) ?_
  refine walk_nil ?_
  refine dwp_holes 1 (by simp only [holes, List.cons_append, List.nil_append]; exact rfl) ?_
  refine dwp_region ?_
  refine walk_w rfl rfl rfl (op_alloc 7 rfl zr44 rfl) (by simp only [upd, List.set_cons_zero, List.set_cons_succ]; exact rfl) ?_
  refine walk_s rfl rfl (op_stam rfl tb44 (ev1 rfl) (ev1 rfl) rfl rfl rfl rfl) (by simp only [upd, List.set_cons_zero, List.set_cons_succ]; exact rfl) ?_
  refine walk_nil ?_
  refine ⟨rfl, ?_⟩
  simp only [List.set_cons_zero, List.set_cons_succ]
  refine dwp_block ?_
  refine dwp_seq ?_
  refine dwp_seq ?_
  refine dwp_region ?_
  refine walk_r rfl rfl rfl (op_move (.inl rfl) (ev1 rfl)) ?_
  refine walk_r rfl rfl rfl (op_ldo rfl tb3 (ev1 rfl) rfl rfl) ?_
  refine walk_r rfl rfl rfl (op_eql rfl (ev1 rfl) (ev1 rfl)) ?_
  refine walk_nil ?_
  refine dwp_if_t rfl (by simp; omega) ?_
  refine dwp_seq ?_
  refine dwp_region ?_
  refine walk_r rfl rfl rfl (op_ldm rfl tb82 (ev1 rfl) rfl rfl) ?_
  refine walk_r rfl rfl rfl (op_ldmw rfl tb44 (ev1 rfl) rfl rfl) ?_
  refine walk_r rfl rfl rfl (op_ldo rfl tb3 (ev1 rfl) rfl rfl) ?_
  refine walk_w rfl rfl rfl (dop_call [2, 3, 4] [] [] rfl (ev1 rfl) (ec (ev1 rfl) (ec (ev1 rfl) (ec (ev1 rfl) en))) rfl (by exact mfits _ _ ⟨rfl, rfl, (by first | exact rfl | exact arx_fits rfl rfl (vwL_flat (fun _ => rfl) _) | exact arxr_fits rfl rfl (nlL_flatR (fun _ => rfl) _) | exact arxg_fits rfl rfl (fun _ => rfl) | exact arxs_fits rfl rfl (fun _ => rfl)), trivial⟩) (tear_d s dn fu o k nq t Q (hG.file _ (by have := (mayW_in ho).2; omega)) (hG.wait _ hq) (hG.ne _ (by have := (mayW_in ho).2; omega) _ hq) (mayW_in ho).2 hb) rfl rfl rfl (by exact (wrc rfl (wrc rfl (wrc (by first | exact rfl | exact sb_arx (fun _ => rfl) | exact sb_arxr (nlL_flatR (fun _ => rfl) _) | exact sb_arxg (fun _ => rfl) | exact sb_arxs (fun _ => rfl)) rfl)))) rfl rfl) (by simp only [upd, List.set_cons_zero, List.set_cons_succ]; exact rfl) ?_
  refine walk_nil ?_
  refine dwp_exit ?_
  refine ⟨by first | rfl | assumption | simp_all, rfl, [0, 1, 2, 3, 4, 5, 6], rfl, ⟨rfl, rfl, rfl, rfl, ox_fits rfl rfl rfl, rfl, rfl, trivial⟩⟩
set_option maxRecDepth 4000 in
set_option maxHeartbeats 1000000 in
theorem waitF_go (s : DSt) (dn : Bool) (fu : Int) (Q : List (DOpn × Nat)) (keep t : Nat) (hG : GOk s Q) (hw : ∀ q ∈ Q, mayW q.1 = true) (hlen : Q.length ≤ 10000) (hb : ∀ (k : Nat) (hk : k < Q.length), ((stGs s (Q.take k)).f Q[k].1.fl.toNat).length + Q[k].1.b.length ≤ 1000000000000) (hkp : Q.length ≤ keep) : DFun Try.prog 72 [.yld 0, .loc 7 0] [.lp 55 [(4, .loc 5 0), (5, .loc 6 0), (8, .loc 1 0)] #[27, 28] faA faB .ready none, .mix 82 [.loc 3 0], .fam (s).B, .mix 86 (cGm 2 (s).g (s).h (.arr 4) dn fu), .arx 44 3 Q.length (Q.flatMap (oF 2)), .flat 3 [.int .i64 (keep : Int)], .flat 3 [.int .i64 (t : Int)], .mix 82 [.loc 3 0]] (.tup []) [.lp 55 [(4, .loc 5 0), (5, .loc 6 0), (8, .loc 1 0)] #[27, 28] faA faB .ready none, .mix 82 [.loc 3 0], .fam ((stGs s Q)).B, .mix 86 (cGm 2 ((stGs s Q)).g ((stGs s Q)).h (.arr 4) dn fu), .arx 44 3 Q.length (Q.flatMap (oF 2)), .flat 3 [.int .i64 (keep : Int)], .flat 3 [.int .i64 (t : Int)], .mix 82 [.loc 3 0]] := by
  refine dcalls_go (N := 22) 8 (by kernel_rfl) Try.func72 rfl rfl rfl (by simp only [fr0, Nat.zero_add, Nat.reduceAdd]; exact rfl) rfl fun s0 hs0 => ?_
  refine dwp_seq ?_
  refine dwp_region ?_
  refine walk_r rfl rfl rfl (op_ldm rfl tb82 (ev1 rfl) rfl rfl) ?_
  refine walk_r rfl rfl rfl (op_nc rfl (ev1 rfl) (fun s v h => by cases h; exact ⟨_, rfl⟩)) ?_
  refine walk_r rfl rfl rfl (op_fa rfl fo86_0 (ev1 rfl)) ?_
  refine walk_r rfl rfl rfl (op_fa rfl fo26_2 (ev1 rfl)) ?_
  refine walk_r rfl rfl rfl (op_ldm rfl tb24 (ev1 rfl) rfl rfl) ?_
  refine walk_r rfl rfl rfl (op_lenx rfl sl24 (ev1 rfl) rfl) ?_
  refine walk_r rfl rfl rfl (op_move (.inl rfl) (ev1 rfl)) ?_
  refine walk_nil ?_
  refine dwp_block ?_
  refine dwp_loopS ⟨hs0, rfl⟩ (α := Nat) (fun k => [(11, .val (.int .i64 (k : Int)))]) [(0, _), (9, _), (10, _)] (fun k => [(2, .fam (stGs s (Q.take k)).B), (3, .mix 86 (cGm 2 ((stGs s (Q.take k))).g ((stGs s (Q.take k))).h (.arr 4) dn fu))]) [_, _, .hole, .hole, _, _, _, _] (fun k => k ≤ Q.length) (fun k => Q.length - k) 0 [0, 1, 2, 3, 4, 5, 6, 7] (by simp) rfl ⟨rfl, rfl, rfl, trivial⟩ ⟨rfl, trivial⟩ ⟨rfl, rfl, rfl, rfl, arxs_fits rfl rfl (fun _ => rfl), rfl, rfl, rfl, trivial⟩ ?_
  intro k hx
  simp only [upd, List.set_cons_zero, List.set_cons_succ, List.cons_append, List.nil_append]
  have hk := hx
  refine dwp_seq ?_
  refine dwp_region ?_
  refine walk_r rfl rfl rfl (op_lss rfl (ev1 rfl) (ev1 rfl)) ?_
  refine walk_nil ?_
  refine dwp_seq ?_
  refine dwp_cond rfl (fun c1 => ?_) (fun c1 => ?_)
  · try simp only [decide_eq_true_eq, decide_eq_false_iff_not, beq_iff_eq, bne_iff_ne, beq_eq_false_iff_ne, bne_eq_false_iff_eq, Bool.not_eq_true', Bool.not_eq_false', Bool.and_eq_true, Bool.or_eq_true, Bool.or_eq_false_iff, ne_eq, Decidable.not_not, Int.not_lt, Int.not_le] at c1
    refine dwp_skip ?_
    refine dwp_seq ?_
    refine dwp_block ?_
    refine dwp_seq ?_
    have hkl : k < Q.length := by omega
    refine dwp_holes 1 (by simp only [holes, List.cons_append, List.nil_append]; exact rfl) ?_
    refine dwp_region ?_
    refine walk_r rfl rfl rfl (op_move (.inl rfl) (ev1 rfl)) ?_
    refine walk_r rfl rfl rfl (op_ixx (k) rfl sl24 (ev1 rfl) (ev1 rfl) rfl (fun _ => rfl) (fun _ => by omega)) ?_
    refine walk_r rfl rfl rfl (op_ldxr (j := k) rfl tb44 (ev1 rfl) rfl (fun _ => rfl) (by omega)) ?_
    refine walk_w rfl rfl rfl (op_alloc 8 rfl zr44 rfl) (by simp only [upd, List.set_cons_zero, List.set_cons_succ]; exact rfl) ?_
    refine walk_r rfl rfl rfl (op_move (.inr rfl) (ev1 rfl)) ?_
    refine walk_s rfl rfl (op_stam rfl tb44 (ev1 rfl) (ev1 rfl) rfl rfl rfl rfl) (by simp only [upd, List.set_cons_zero, List.set_cons_succ]; exact rfl) ?_
    refine walk_nil ?_
    refine dwp_seq ?_
    refine dwp_region ?_
    refine walk_r rfl rfl rfl (op_move (.inl rfl) (ev1 rfl)) ?_
    refine walk_r rfl rfl rfl (op_move (.inl rfl) (ev1 rfl)) ?_
    refine walk_r rfl rfl rfl (op_ldmw rfl tb44 (ev1 rfl) rfl rfl) ?_
    refine walk_w rfl rfl rfl (op_y (i := 0) [0, 1, 2, 3, 4, 5, 6] [] [] rfl (ev1 rfl) (ec (ev1 rfl) (ec (ev1 rfl) en)) rfl rfl (by exact mfits _ _ ⟨rfl, rfl, rfl, rfl, (by first | exact rfl | exact arx_fits rfl rfl (vwL_flat (fun _ => rfl) _) | exact arxg_fits rfl rfl (fun _ => rfl) | exact arxs_fits rfl rfl (fun _ => rfl)), rfl, rfl, trivial⟩) (faRound_go (stGs s (Q.take k)) dn fu Q.length Q keep t k Q[k].1 Q[k].2 (hG.steps _ fun q hq => hw q (List.mem_of_mem_take hq)) (List.getElem_mem hkl) (hw _ (List.getElem_mem hkl)) (hb k hkl) (by omega)) rfl rfl rfl (by exact (wrc rfl (wrc rfl (wrc rfl (wrc rfl (wrc (by first | exact rfl | exact sb_arx (fun _ => rfl) | exact sb_arxr (nlL_flatR (fun _ => rfl) _) | exact sb_arxg (fun _ => rfl) | exact sb_arxs (fun _ => rfl)) (wrc rfl (wrc rfl rfl)))))))) rfl) (by simp only [upd, List.set_cons_zero, List.set_cons_succ]; exact rfl) ?_
    refine walk_r rfl rfl rfl (op_not rfl (ev1 rfl)) ?_
    refine walk_nil ?_
    refine dwp_if_f rfl (rfl) ?_
    refine dwp_skip ?_
    refine dwp_region ?_
    refine walk_r rfl rfl rfl (op_add' rfl (ev1 rfl) (ev1 rfl) (fun _ => IntWalk.i64_in _ (by omega))) ?_
    refine walk_r rfl rfl rfl (op_move (.inl rfl) (ev1 rfl)) ?_
    refine walk_nil ?_
    refine ⟨k + 1, [0, 1, 2, 3, 4, 5, 6, 7], by omega, by simp only []; omega, rfl, ⟨rfl, rfl, rfl, rfl, trivial⟩, ⟨rfl, rfl, by rw [stGs_succ hkl]; rfl, by rw [stGs_succ hkl]; rfl, ox_fits rfl rfl rfl, rfl, rfl, rfl, trivial⟩⟩
  · try simp only [decide_eq_true_eq, decide_eq_false_iff_not, beq_iff_eq, bne_iff_ne, beq_eq_false_iff_ne, bne_eq_false_iff_eq, Bool.not_eq_true', Bool.not_eq_false', Bool.and_eq_true, Bool.or_eq_true, Bool.or_eq_false_iff, ne_eq, Decidable.not_not, Int.not_lt, Int.not_le] at c1
    refine dwp_exit ?_
    obtain rfl : k = Q.length := by omega
    rw [List.take_length]
    refine kend [0, 1, 2, 3, 4, 5, 6, 7] (res_none rfl) rfl rfl ?_ ⟨?_, ?_, ?_, ?_, ?_, ?_, ?_, ?_, trivial⟩
    rfl
    all_goals first | exact rfl | exact ox_fits rfl rfl rfl
set_option maxRecDepth 4000 in
set_option maxHeartbeats 1000000 in
theorem waitF_stop (s : DSt) (dn : Bool) (fu : Int) (Q : List (DOpn × Nat)) (keep t : Nat) (hG : GOk s Q) (hw : ∀ q ∈ Q, mayW q.1 = true) (hlen : Q.length ≤ 10000) (hb : ∀ (k : Nat) (hk : k < Q.length), ((stGs s (Q.take k)).f Q[k].1.fl.toNat).length + Q[k].1.b.length ≤ 1000000000000) (hkp : keep < Q.length) : DFun Try.prog 72 [.yld 0, .loc 7 0] [.lp 55 [(4, .loc 5 0), (5, .loc 6 0), (8, .loc 1 0)] #[27, 28] faA faB .ready none, .mix 82 [.loc 3 0], .fam (s).B, .mix 86 (cGm 2 (s).g (s).h (.arr 4) dn fu), .arx 44 3 Q.length (Q.flatMap (oF 2)), .flat 3 [.int .i64 (keep : Int)], .flat 3 [.int .i64 (t : Int)], .mix 82 [.loc 3 0]] (.tup []) [.lp 55 [(4, .loc 5 0), (5, .loc 6 0), (8, .loc 1 0)] #[27, 28] faA faB .done (some (.exit 0)), .mix 82 [.loc 3 0], .fam ((tearS (stGs s (Q.take keep)) Q[keep].1 Q[keep].2 t)).B, .mix 86 (cGm 2 ((tearS (stGs s (Q.take keep)) Q[keep].1 Q[keep].2 t)).g ((tearS (stGs s (Q.take keep)) Q[keep].1 Q[keep].2 t)).h (.arr 4) dn fu), .arx 44 3 Q.length (Q.flatMap (oF 2)), .flat 3 [.int .i64 (keep : Int)], .flat 3 [.int .i64 (t : Int)], .mix 82 [.loc 3 0]] := by
  refine dcalls_go (N := 22) 8 (by kernel_rfl) Try.func72 rfl rfl rfl (by simp only [fr0, Nat.zero_add, Nat.reduceAdd]; exact rfl) rfl fun s0 hs0 => ?_
  refine dwp_seq ?_
  refine dwp_region ?_
  refine walk_r rfl rfl rfl (op_ldm rfl tb82 (ev1 rfl) rfl rfl) ?_
  refine walk_r rfl rfl rfl (op_nc rfl (ev1 rfl) (fun s v h => by cases h; exact ⟨_, rfl⟩)) ?_
  refine walk_r rfl rfl rfl (op_fa rfl fo86_0 (ev1 rfl)) ?_
  refine walk_r rfl rfl rfl (op_fa rfl fo26_2 (ev1 rfl)) ?_
  refine walk_r rfl rfl rfl (op_ldm rfl tb24 (ev1 rfl) rfl rfl) ?_
  refine walk_r rfl rfl rfl (op_lenx rfl sl24 (ev1 rfl) rfl) ?_
  refine walk_r rfl rfl rfl (op_move (.inl rfl) (ev1 rfl)) ?_
  refine walk_nil ?_
  refine dwp_block ?_
  refine dwp_loopS ⟨hs0, rfl⟩ (α := Nat) (fun k => [(11, .val (.int .i64 (k : Int)))]) [(0, _), (9, _), (10, _)] (fun k => [(2, .fam (stGs s (Q.take k)).B), (3, .mix 86 (cGm 2 ((stGs s (Q.take k))).g ((stGs s (Q.take k))).h (.arr 4) dn fu))]) [_, _, .hole, .hole, _, _, _, _] (fun k => k ≤ keep) (fun k => Q.length - k) 0 [0, 1, 2, 3, 4, 5, 6, 7] (by simp) rfl ⟨rfl, rfl, rfl, trivial⟩ ⟨rfl, trivial⟩ ⟨rfl, rfl, rfl, rfl, arxs_fits rfl rfl (fun _ => rfl), rfl, rfl, rfl, trivial⟩ ?_
  intro k hx
  simp only [upd, List.set_cons_zero, List.set_cons_succ, List.cons_append, List.nil_append]
  have hk := hx
  refine dwp_seq ?_
  refine dwp_region ?_
  refine walk_r rfl rfl rfl (op_lss rfl (ev1 rfl) (ev1 rfl)) ?_
  refine walk_nil ?_
  refine dwp_seq ?_
  refine dwp_cond rfl (fun c1 => ?_) (fun c1 => ?_)
  · try simp only [decide_eq_true_eq, decide_eq_false_iff_not, beq_iff_eq, bne_iff_ne, beq_eq_false_iff_ne, bne_eq_false_iff_eq, Bool.not_eq_true', Bool.not_eq_false', Bool.and_eq_true, Bool.or_eq_true, Bool.or_eq_false_iff, ne_eq, Decidable.not_not, Int.not_lt, Int.not_le] at c1
    refine dwp_skip ?_
    refine dwp_seq ?_
    refine dwp_block ?_
    refine dwp_seq ?_
    have hkl : k < Q.length := by omega
    refine dwp_holes 1 (by simp only [holes, List.cons_append, List.nil_append]; exact rfl) ?_
    refine dwp_region ?_
    refine walk_r rfl rfl rfl (op_move (.inl rfl) (ev1 rfl)) ?_
    refine walk_r rfl rfl rfl (op_ixx (k) rfl sl24 (ev1 rfl) (ev1 rfl) rfl (fun _ => rfl) (fun _ => by omega)) ?_
    refine walk_r rfl rfl rfl (op_ldxr (j := k) rfl tb44 (ev1 rfl) rfl (fun _ => rfl) (by omega)) ?_
    refine walk_w rfl rfl rfl (op_alloc 8 rfl zr44 rfl) (by simp only [upd, List.set_cons_zero, List.set_cons_succ]; exact rfl) ?_
    refine walk_r rfl rfl rfl (op_move (.inr rfl) (ev1 rfl)) ?_
    refine walk_s rfl rfl (op_stam rfl tb44 (ev1 rfl) (ev1 rfl) rfl rfl rfl rfl) (by simp only [upd, List.set_cons_zero, List.set_cons_succ]; exact rfl) ?_
    refine walk_nil ?_
    refine dwp_seq ?_
    by_cases hkk : k = keep
    · refine dwp_region ?_
      refine walk_r rfl rfl rfl (op_move (.inl rfl) (ev1 rfl)) ?_
      refine walk_r rfl rfl rfl (op_move (.inl rfl) (ev1 rfl)) ?_
      refine walk_r rfl rfl rfl (op_ldmw rfl tb44 (ev1 rfl) rfl rfl) ?_
      refine walk_w rfl rfl rfl (op_y (i := 0) [0, 1, 2, 3, 4, 5, 6] [] [] rfl (ev1 rfl) (ec (ev1 rfl) (ec (ev1 rfl) en)) rfl rfl (by exact mfits _ _ ⟨rfl, rfl, rfl, rfl, (by first | exact rfl | exact arx_fits rfl rfl (vwL_flat (fun _ => rfl) _) | exact arxg_fits rfl rfl (fun _ => rfl) | exact arxs_fits rfl rfl (fun _ => rfl)), rfl, rfl, trivial⟩) (faRound_stop (stGs s (Q.take k)) dn fu Q.length Q keep t k Q[k].1 Q[k].2 (hG.steps _ fun q hq => hw q (List.mem_of_mem_take hq)) (List.getElem_mem hkl) (hw _ (List.getElem_mem hkl)) (hb k hkl) hkk) rfl rfl rfl (by exact (wrc rfl (wrc rfl (wrc rfl (wrc rfl (wrc (by first | exact rfl | exact sb_arx (fun _ => rfl) | exact sb_arxr (nlL_flatR (fun _ => rfl) _) | exact sb_arxg (fun _ => rfl) | exact sb_arxs (fun _ => rfl)) (wrc rfl (wrc rfl rfl)))))))) rfl) (by simp only [upd, List.set_cons_zero, List.set_cons_succ]; exact rfl) ?_
      refine walk_r rfl rfl rfl (op_not rfl (ev1 rfl)) ?_
      refine walk_nil ?_
      refine dwp_if_t rfl (rfl) ?_
      refine dwp_ret ?_
      subst hkk
      refine kend [0, 1, 2, 3, 4, 5, 6, 7] (res_none rfl) rfl rfl ?_ ⟨?_, ?_, ?_, ?_, ?_, ?_, ?_, ?_, trivial⟩
      rfl
      all_goals first | exact rfl | exact ox_fits rfl rfl rfl
    · refine dwp_region ?_
      refine walk_r rfl rfl rfl (op_move (.inl rfl) (ev1 rfl)) ?_
      refine walk_r rfl rfl rfl (op_move (.inl rfl) (ev1 rfl)) ?_
      refine walk_r rfl rfl rfl (op_ldmw rfl tb44 (ev1 rfl) rfl rfl) ?_
      refine walk_w rfl rfl rfl (op_y (i := 0) [0, 1, 2, 3, 4, 5, 6] [] [] rfl (ev1 rfl) (ec (ev1 rfl) (ec (ev1 rfl) en)) rfl rfl (by exact mfits _ _ ⟨rfl, rfl, rfl, rfl, (by first | exact rfl | exact arx_fits rfl rfl (vwL_flat (fun _ => rfl) _) | exact arxg_fits rfl rfl (fun _ => rfl) | exact arxs_fits rfl rfl (fun _ => rfl)), rfl, rfl, trivial⟩) (faRound_go (stGs s (Q.take k)) dn fu Q.length Q keep t k Q[k].1 Q[k].2 (hG.steps _ fun q hq => hw q (List.mem_of_mem_take hq)) (List.getElem_mem hkl) (hw _ (List.getElem_mem hkl)) (hb k hkl) hkk) rfl rfl rfl (by exact (wrc rfl (wrc rfl (wrc rfl (wrc rfl (wrc (by first | exact rfl | exact sb_arx (fun _ => rfl) | exact sb_arxr (nlL_flatR (fun _ => rfl) _) | exact sb_arxg (fun _ => rfl) | exact sb_arxs (fun _ => rfl)) (wrc rfl (wrc rfl rfl)))))))) rfl) (by simp only [upd, List.set_cons_zero, List.set_cons_succ]; exact rfl) ?_
      refine walk_r rfl rfl rfl (op_not rfl (ev1 rfl)) ?_
      refine walk_nil ?_
      refine dwp_if_f rfl (rfl) ?_
      refine dwp_skip ?_
      refine dwp_region ?_
      refine walk_r rfl rfl rfl (op_add' rfl (ev1 rfl) (ev1 rfl) (fun _ => IntWalk.i64_in _ (by omega))) ?_
      refine walk_r rfl rfl rfl (op_move (.inl rfl) (ev1 rfl)) ?_
      refine walk_nil ?_
      refine ⟨k + 1, [0, 1, 2, 3, 4, 5, 6, 7], by omega, by simp only []; omega, rfl, ⟨rfl, rfl, rfl, rfl, trivial⟩, ⟨rfl, rfl, by rw [stGs_succ hkl]; rfl, by rw [stGs_succ hkl]; rfl, ox_fits rfl rfl rfl, rfl, rfl, rfl, trivial⟩⟩
  · exact absurd (show (k : Int) < (Q.length : Int) by omega) (of_decide_eq_false c1)
end Go.Proofs.Ytjecmkaggobcjaa

namespace Go.Proofs.Ytjecmkaggobcjaa
set_option linter.unusedVariables false
set_option linter.unusedSimpArgs false
open Go.RowKit
structure DkS where
  f : Nat → List Nat
  h : Int
  w : List DOpn
  dn : Bool
  fu : Int
def DkS.ok (d : DkS) : Prop := chkB d.f d.h d.w d.dn d.fu = true
abbrev DkS.d (d : DkS) : D := .agg (dD d.f d.h d.w d.dn d.fu)
def fullB (d : DkS) (o : DOpn) : Bool := (decide (o.kd = 1) && decide (4194304 < (afts (szs d.f) d.w).getD o.fl.toNat 0 + o.b.length)) || !decide (d.w.length < 4096)
def opE (d : DkS) (o : DOpn) : Int := if mayO o = false then 2 else if d.dn = true then 321 else if o.kd ≠ 4 ∧ fullB d o = true then 6 else if d.fu = 1 then 321 else 0
def okS (d : DkS) (o : DOpn) : DkS := if o.kd = 4 then ⟨seF d.f d.w, seH d.h d.w, [], d.dn, fuB d.fu⟩ else ⟨d.f, d.h, d.w ++ [o], d.dn, fuB d.fu⟩
def dnS (d : DkS) : DkS := ⟨d.f, d.h, d.w, true, if d.dn = true then d.fu else 0⟩
theorem chk_parts {d : DkS} (h : d.ok) : chk0 d.h d.w d.dn d.fu = true ∧ allF d.f = true ∧ (∀ o ∈ d.w, mayW o = true) ∧ szB (szs d.f) d.w = true := by
  unfold DkS.ok chkB at h
  simp only [Bool.and_eq_true] at h
  exact ⟨h.1.1, h.1.2, fun o ho => List.all_eq_true.1 h.2.1 o ho, h.2.2⟩
theorem chk_join {d : DkS} (h1 : chk0 d.h d.w d.dn d.fu = true) (h2 : allF d.f = true) (h3 : ∀ o ∈ d.w, mayW o = true) (h4 : szB (szs d.f) d.w = true) : d.ok := by
  unfold DkS.ok chkB
  rw [h1, h2, h4, List.all_eq_true.2 h3]; rfl
theorem chk0_parts {h : Int} {w : List DOpn} {dn : Bool} {fu : Int} (hc : chk0 h w dn fu = true) : (0 ≤ h ∧ h < 4) ∧ (0 ≤ fu ∧ fu ≤ 4096) ∧ (dn = true → fu = 0) ∧ w.length ≤ 4096 := by
  unfold chk0 at hc
  simp only [Bool.and_eq_true, decide_eq_true_eq, Bool.not_eq_true', Bool.and_eq_false_iff, decide_eq_false_iff_not, ne_eq, Decidable.not_not] at hc
  obtain ⟨⟨⟨h1, h2⟩, h3⟩, h4⟩ := hc
  refine ⟨h1, h2, fun e => ?_, h4⟩
  rcases h3 with h3 | h3
  · rw [e] at h3; cases h3
  · exact h3
theorem chk0_join {h : Int} {w : List DOpn} {dn : Bool} {fu : Int} (h1 : 0 ≤ h ∧ h < 4) (h2 : 0 ≤ fu ∧ fu ≤ 4096) (h3 : dn = true → fu = 0) (h4 : w.length ≤ 4096) : chk0 h w dn fu = true := by
  unfold chk0
  simp only [Bool.and_eq_true, decide_eq_true_eq, Bool.not_eq_true', Bool.and_eq_false_iff, decide_eq_false_iff_not, ne_eq, Decidable.not_not]
  refine ⟨⟨⟨h1, h2⟩, ?_⟩, h4⟩
  cases e : dn with
  | false => exact .inl rfl
  | true => exact .inr (h3 e)
theorem allF_len {f : Nat → List Nat} (h : allF f = true) {i : Nat} (hi : i < 4) : (f i).length ≤ 4194304 := by
  unfold allF at h
  simp at h
  have : i = 0 ∨ i = 1 ∨ i = 2 ∨ i = 3 := by omega
  rcases this with rfl | rfl | rfl | rfl <;> omega
theorem szs_at {f : Nat → List Nat} {i : Nat} (hi : i < 4) : (szs f).getD i 0 = (f i).length := by
  have : i = 0 ∨ i = 1 ∨ i = 2 ∨ i = 3 := by omega
  rcases this with rfl | rfl | rfl | rfl <;> rfl
theorem szs_out {f : Nat → List Nat} {i : Nat} (hi : ¬ i < 4) : (szs f).getD i 0 = 0 := by
  rw [List.getD_eq_getElem?_getD, List.getElem?_eq_none (show (szs f).length ≤ i by show 4 ≤ i; omega)]; rfl
theorem aft_ne {l : List Nat} {o : DOpn} {i : Nat} (h : i ≠ o.fl.toNat) : (aft l o).getD i 0 = l.getD i 0 := by
  unfold aft
  simp only [List.getD_eq_getElem?_getD]
  split
  · rw [List.getElem?_set_ne (Ne.symm h)]
  · split
    · rw [List.getElem?_set_ne (Ne.symm h)]
    · rfl
theorem aft_1 {l : List Nat} {o : DOpn} (h : o.kd = 1) (hl : o.fl.toNat < l.length) : (aft l o).getD o.fl.toNat 0 = l.getD o.fl.toNat 0 + o.b.length := by
  unfold aft
  rw [if_pos h]
  simp [List.getD_eq_getElem?_getD, hl]
theorem afts_max {f : Nat → List Nat} {w : List DOpn} (h1 : allF f = true) (h2 : szB (szs f) w = true) : ∀ k, k ≤ w.length → ∀ i, (afts (szs f) (w.take k)).getD i 0 ≤ 4194304
  | 0, _, i => by
    show (szs f).getD i 0 ≤ _
    by_cases hi : i < 4
    · rw [szs_at hi]; exact allF_len h1 hi
    · rw [szs_out hi]; omega
  | k + 1, hk, i => by
    have hk' : k < w.length := by omega
    by_cases e : i = (w[k]).fl.toNat
    · subst e; exact of_decide_eq_true h2 k hk'
    · rw [afts_succ hk', aft_ne e]; exact afts_max h1 h2 k (by omega) i
theorem few_of {d : DkS} (h : d.ok) : fewB (szs d.f) d.w := by
  obtain ⟨h1, h2, h3, h4⟩ := chk_parts h
  have hm := afts_max h2 h4
  refine ⟨fun i => Nat.le_trans (hm 0 (by omega) i) (by omega), by have := (chk0_parts h1).2.2.2; omega, fun o ho => ?_⟩
  by_cases k1 : o.kd = 1
  · obtain ⟨k, hk, rfl⟩ := List.getElem_of_mem ho
    have hf := (mayW_in (h3 _ ho)).2
    have := hm (k + 1) (by omega) (d.w[k]).fl.toNat
    rw [afts_succ hk, aft_1 k1 (by rw [afts_len]; show _ < 4; omega)] at this
    omega
  · have := len0 (h3 o ho) k1; omega
theorem doF_szs {f : Nat → List Nat} {o : DOpn} (h : mayW o = true) : szs (doF f o) = aft (szs f) o := by
  obtain ⟨_, hf⟩ := mayW_in h
  unfold doF aft
  have hz : o.fl.toNat = 0 ∨ o.fl.toNat = 1 ∨ o.fl.toNat = 2 ∨ o.fl.toNat = 3 := by omega
  by_cases k1 : o.kd = 1
  · rw [if_pos k1, if_pos k1]
    rcases hz with e | e | e | e <;> rw [e] <;> simp [szs, updF]
  · rw [if_neg k1, if_neg k1]
    by_cases k2 : o.kd = 2
    · rw [if_pos k2, if_pos k2]
      rcases hz with e | e | e | e <;> rw [e] <;> simp [szs, updF]
    · rw [if_neg k2, if_neg k2]
theorem seF_szs : ∀ (w : List DOpn) (f : Nat → List Nat), (∀ o ∈ w, mayW o = true) → szs (seF f w) = afts (szs f) w
  | [], _, _ => rfl
  | o :: w, f, h => by
    show szs (seF (doF f o) w) = afts (aft (szs f) o) w
    rw [seF_szs w _ fun q hq => h q (List.mem_cons_of_mem _ hq), doF_szs (h o (List.mem_cons_self ..))]
theorem seF_len {w : List DOpn} {f : Nat → List Nat} (h : ∀ o ∈ w, mayW o = true) {i : Nat} (hi : i < 4) : (seF f w i).length = (afts (szs f) w).getD i 0 := by
  rw [← seF_szs w f h, szs_at hi]
theorem seH_in : ∀ (w : List DOpn) (h : Int), (0 ≤ h ∧ h < 4) → (∀ o ∈ w, mayW o = true) → 0 ≤ seH h w ∧ seH h w < 4
  | [], _, h0, _ => h0
  | o :: w, h, h0, hw => seH_in w (doH h o) (by
    unfold doH
    have := (mayW_in (hw o (List.mem_cons_self ..))).2
    split
    · exact h0
    · split
      · exact h0
      · exact this) fun q hq => hw q (List.mem_cons_of_mem _ hq)
theorem mayO_kd {o : DOpn} (h : mayO o = true) : o.kd = 1 ∨ o.kd = 2 ∨ o.kd = 3 ∨ o.kd = 4 := by
  by_cases k4 : o.kd = 4
  · exact .inr (.inr (.inr k4))
  · have := (mayW_in (mayO_w h k4)).1; omega
theorem opE_0 {d : DkS} {o : DOpn} (h : opE d o = 0) : mayO o = true ∧ d.dn = false ∧ (o.kd = 4 ∨ fullB d o = false) ∧ d.fu ≠ 1 := by
  unfold opE at h
  split at h
  · cases h
  · rename_i h1
    split at h
    · cases h
    · rename_i h2
      split at h
      · cases h
      · rename_i h3
        split at h
        · cases h
        · rename_i h4
          refine ⟨by simpa using h1, by simpa using h2, ?_, h4⟩
          by_cases k4 : o.kd = 4
          · exact .inl k4
          · refine .inr ?_
            cases e : fullB d o with
            | false => rfl
            | true => exact absurd ⟨k4, e⟩ h3
theorem fullB_no {d : DkS} {o : DOpn} (h : fullB d o = false) : (o.kd = 1 → (afts (szs d.f) d.w).getD o.fl.toNat 0 + o.b.length ≤ 4194304) ∧ d.w.length < 4096 := by
  unfold fullB at h
  simp only [Bool.or_eq_false_iff, Bool.and_eq_false_iff, decide_eq_false_iff_not, Bool.not_eq_false', decide_eq_true_eq] at h
  refine ⟨fun e => ?_, h.2⟩
  rcases h.1 with h1 | h1
  · exact absurd e h1
  · omega
theorem fuB_in {fu : Int} (h : 0 ≤ fu ∧ fu ≤ 4096) : 0 ≤ fuB fu ∧ fuB fu ≤ 4096 := by unfold fuB; split <;> omega
theorem ok_step {d : DkS} {o : DOpn} (h : d.ok) (he : opE d o = 0) : (okS d o).ok := by
  obtain ⟨hm, hd, hfl, hfu⟩ := opE_0 he
  obtain ⟨h1, h2, h3, h4⟩ := chk_parts h
  obtain ⟨g1, g2, g3, g4⟩ := chk0_parts h1
  have hmax := afts_max h2 h4
  unfold okS
  by_cases k4 : o.kd = 4
  · rw [if_pos k4]
    refine chk_join (chk0_join (seH_in _ _ g1 h3) (fuB_in g2) (fun e => by rw [show d.dn = true from e] at hd; cases hd) (Nat.zero_le _)) (allF_yes fun i hi => ?_) (fun o ho => absurd ho (List.not_mem_nil)) (szB_all fun k hk => absurd hk (Nat.not_lt_zero k))
    show ((seF d.f d.w i).length : Int) ≤ _
    rw [seF_len h3 hi]
    have := hmax d.w.length (Nat.le_refl _) i
    rw [List.take_length] at this
    omega
  · rw [if_neg k4]
    have hw := mayO_w hm k4
    obtain ⟨f1, f2⟩ := fullB_no (hfl.resolve_left k4)
    refine chk_join (chk0_join g1 (fuB_in g2) (fun e => by rw [show d.dn = true from e] at hd; cases hd) (by show (d.w ++ [o]).length ≤ _; simp; omega)) h2 (fun q hq => ?_) (szB_all fun k hk => ?_)
    · rcases List.mem_append.1 hq with hq | hq
      · exact h3 q hq
      · rw [List.mem_singleton.1 hq]; exact hw
    · by_cases e : k < d.w.length
      · show (afts (szs d.f) ((d.w ++ [o]).take (k + 1))).getD ((d.w ++ [o])[k]).fl.toNat 0 ≤ _
        rw [List.take_append_of_le_length (by omega)]
        exact hmax (k + 1) (by omega) _
      · have hk' : k < (d.w ++ [o]).length := hk
        have ek : k = d.w.length := by simp at hk'; omega
        subst ek
        show (afts (szs d.f) ((d.w ++ [o]).take (d.w.length + 1))).getD ((d.w ++ [o])[d.w.length]).fl.toNat 0 ≤ _
        have e1 : (d.w ++ [o])[d.w.length] = o := by simp
        rw [e1, afts_succ hk', e1, List.take_left']
        · have hof := (mayW_in hw).2
          have hx := hmax d.w.length (Nat.le_refl _) o.fl.toNat
          rw [List.take_length] at hx
          by_cases k1 : o.kd = 1
          · rw [aft_1 k1 (by rw [afts_len]; show _ < 4; omega)]; exact f1 k1
          · have := aft_le (afts (szs d.f) d.w) o o.fl.toNat
            rw [len0 hw k1] at this
            omega
        · rfl
def stK (d : DkS) (l : List DOpn) (k : Nat) : DkS := (l.take k).foldl okS d
theorem stK_succ {d : DkS} {l : List DOpn} {k : Nat} (hk : k < l.length) : stK d l (k + 1) = okS (stK d l k) l[k] := by
  unfold stK
  rw [List.take_succ_eq_append_getElem hk, List.foldl_append]
  rfl
def okK (d : DkS) (l : List DOpn) (k : Nat) : Prop := ∀ i (hi : i < l.length), i < k → opE (stK d l i) l[i] = 0
theorem stK_ok {d : DkS} {l : List DOpn} (h : d.ok) : ∀ k, k ≤ l.length → okK d l k → (stK d l k).ok
  | 0, _, _ => h
  | k + 1, hk, ho => by
    rw [stK_succ (by omega)]
    exact ok_step (stK_ok h k (by omega) fun i hi hik => ho i hi (by omega)) (ho k (by omega) (by omega))
def stepX (x : DSt × List (DOpn × Nat)) (o : DOpn) : DSt × List (DOpn × Nat) := if o.kd = 4 then (stGs x.1 x.2, []) else (⟨x.1.B ++ [rowB o.b], x.1.f, x.1.g, x.1.h⟩, x.2 ++ [(o, x.1.B.length)])
def X0 (d : DkS) : DSt × List (DOpn × Nat) := (⟨fB d.f 4 ++ famO d.w, d.f, fun i => i, d.h⟩, d.w.zipIdx 4)
def XK (d : DkS) (l : List DOpn) (k : Nat) : DSt × List (DOpn × Nat) := (l.take k).foldl stepX (X0 d)
theorem XK_succ {d : DkS} {l : List DOpn} {k : Nat} (hk : k < l.length) : XK d l (k + 1) = stepX (XK d l k) l[k] := by
  unfold XK
  rw [List.take_succ_eq_append_getElem hk, List.foldl_append]
  rfl
structure XOk (x : DSt × List (DOpn × Nat)) (d : DkS) : Prop where
  g : GOk x.1 x.2
  f : x.1.f = d.f
  h : x.1.h = d.h
  w : x.2.map Prod.fst = d.w
theorem GOk.add {s : DSt} {Q : List (DOpn × Nat)} (h : GOk s Q) (o : DOpn) : GOk ⟨s.B ++ [rowB o.b], s.f, s.g, s.h⟩ (Q ++ [(o, s.B.length)]) := by
  have lt : ∀ k B, s.B[k]? = some B → k < s.B.length := fun k B e => (List.getElem?_eq_some_iff.1 e).1
  have old : ∀ (k : Nat) B, s.B[k]? = some B → (s.B ++ [rowB o.b])[k]? = some B := fun k B e => by rw [List.getElem?_append_left (lt k B e)]; exact e
  refine ⟨fun i hi => old _ _ (h.file i hi), h.inj, fun q hq => ?_, fun i hi q hq => ?_⟩
  · rcases List.mem_append.1 hq with hq | hq
    · exact old _ _ (h.wait q hq)
    · obtain rfl := List.mem_singleton.1 hq
      show (s.B ++ [rowB o.b])[s.B.length]? = _
      rw [List.getElem?_append_right (Nat.le_refl _), Nat.sub_self]; rfl
  · rcases List.mem_append.1 hq with hq | hq
    · exact h.ne i hi q hq
    · obtain rfl := List.mem_singleton.1 hq
      have := lt _ _ (h.file i hi)
      show s.g i ≠ s.B.length
      omega
theorem XOk.may {x : DSt × List (DOpn × Nat)} {d : DkS} (hx : XOk x d) (h : d.ok) : ∀ q ∈ x.2, mayW q.1 = true := fun q hq => (chk_parts h).2.2.1 _ (by rw [← hx.w]; exact List.mem_map_of_mem hq)
theorem XOk.step {x : DSt × List (DOpn × Nat)} {d : DkS} (hx : XOk x d) (h : d.ok) (o : DOpn) : XOk (stepX x o) (okS d o) := by
  unfold stepX okS
  by_cases k4 : o.kd = 4
  · rw [if_pos k4, if_pos k4]
    refine ⟨?_, by show (stGs x.1 x.2).f = _; rw [stGs_f, hx.f, hx.w], by show (stGs x.1 x.2).h = _; rw [stGs_h, hx.h, hx.w], rfl⟩
    have := GOk.steps x.2 hx.g (hx.may h)
    exact ⟨this.file, this.inj, fun q hq => absurd hq List.not_mem_nil, fun _ _ q hq => absurd hq List.not_mem_nil⟩
  · rw [if_neg k4, if_neg k4]
    exact ⟨hx.g.add o, hx.f, hx.h, by show (x.2 ++ [(o, x.1.B.length)]).map Prod.fst = d.w ++ [o]; rw [List.map_append, hx.w]; rfl⟩
theorem X0_ok (d : DkS) : XOk (X0 d) d := ⟨GOk_new d.f d.w d.h, rfl, rfl, List.zipIdx_map_fst ..⟩
theorem XK_ok {d : DkS} {l : List DOpn} (h : d.ok) : ∀ k, k ≤ l.length → okK d l k → XOk (XK d l k) (stK d l k)
  | 0, _, _ => X0_ok d
  | k + 1, hk, ho => by
    have hk' : k < l.length := by omega
    have ho' : okK d l k := fun i hi hik => ho i hi (by omega)
    rw [XK_succ hk', stK_succ hk']
    exact (XK_ok h k (by omega) ho').step (stK_ok h k (by omega) ho') _
theorem stGs_bd {s : DSt} {Q : List (DOpn × Nat)} (hw : ∀ q ∈ Q, mayW q.1 = true) (hb : fewB (szs s.f) (Q.map Prod.fst)) (k : Nat) (hk : k < Q.length) : ((stGs s (Q.take k)).f Q[k].1.fl.toNat).length + Q[k].1.b.length ≤ 1000000000000 := by
  have ho := (mayW_in (hw _ (List.getElem_mem hk))).2
  rw [stGs_f, List.map_take, seF_seen _ _ _ fun o ho => by
    obtain ⟨q, hq, rfl⟩ := List.mem_map.1 (List.mem_of_mem_take ho)
    exact hw q hq]
  have := seenB_bd (n := (((Q[k].1.fl.toNat : Nat)) : Int)) hb (few_f hb (show Q[k].1.fl.toNat < 4 by omega)) (k := k) (by simpa using hk)
  simpa using this
end Go.Proofs.Ytjecmkaggobcjaa

namespace Go.Proofs.Ytjecmkaggobcjaa
set_option linter.unusedVariables false
set_option linter.unusedSimpArgs false
open Go.RowKit
theorem XOk.few {x : DSt × List (DOpn × Nat)} {d : DkS} (hx : XOk x d) (h : d.ok) : fewB (szs x.1.f) (x.2.map Prod.fst) := by
  rw [hx.f, hx.w]; exact few_of h
theorem XOk.len {x : DSt × List (DOpn × Nat)} {d : DkS} (hx : XOk x d) : x.2.length = d.w.length := by
  rw [← hx.w, List.length_map]
theorem XOk.may2 {x : DSt × List (DOpn × Nat)} {d : DkS} (hx : XOk x d) (h : d.ok) : ∀ o ∈ x.2.map Prod.fst, mayW o = true := by
  rw [hx.w]; exact (chk_parts h).2.2.1
theorem opE_cases (d : DkS) (o : DOpn) : (mayO o = false ∧ opE d o = 2) ∨ (mayO o = true ∧ d.dn = true ∧ opE d o = 321) ∨ (mayO o = true ∧ d.dn = false ∧ o.kd ≠ 4 ∧ fullB d o = true ∧ opE d o = 6) ∨ (mayO o = true ∧ d.dn = false ∧ (o.kd = 4 ∨ fullB d o = false) ∧ d.fu = 1 ∧ opE d o = 321) ∨ (mayO o = true ∧ d.dn = false ∧ (o.kd = 4 ∨ fullB d o = false) ∧ d.fu ≠ 1 ∧ opE d o = 0) := by
  unfold opE
  cases h1 : mayO o with
  | false => exact .inl ⟨rfl, rfl⟩
  | true =>
    rw [if_neg (by simp)]
    cases h2 : d.dn with
    | true => exact .inr (.inl ⟨rfl, rfl, rfl⟩)
    | false =>
      rw [if_neg (by simp)]
      by_cases h3 : o.kd ≠ 4 ∧ fullB d o = true
      · rw [if_pos h3]; exact .inr (.inr (.inl ⟨rfl, rfl, h3.1, h3.2, rfl⟩))
      · rw [if_neg h3]
        have h3' : o.kd = 4 ∨ fullB d o = false := by
          by_cases k4 : o.kd = 4
          · exact .inl k4
          · cases e : fullB d o with
            | false => exact .inr rfl
            | true => exact absurd ⟨k4, e⟩ h3
        by_cases h4 : d.fu = 1
        · rw [if_pos h4]; exact .inr (.inr (.inr (.inl ⟨rfl, rfl, h3', h4, rfl⟩)))
        · rw [if_neg h4]; exact .inr (.inr (.inr (.inr ⟨rfl, rfl, h3', h4, rfl⟩)))
theorem fullB_yes {d : DkS} {o : DOpn} (h : fullB d o = true) : (o.kd = 1 ∧ ¬ (afts (szs d.f) d.w).getD o.fl.toNat 0 + o.b.length ≤ 4194304) ∨ ¬ d.w.length < 4096 := by
  unfold fullB at h
  simp only [Bool.or_eq_true, Bool.and_eq_true, decide_eq_true_eq, Bool.not_eq_true', decide_eq_false_iff_not] at h
  rcases h with ⟨h1, h2⟩ | h
  · exact .inl ⟨h1, by omega⟩
  · exact .inr h
theorem tryU_4 (s : DSt) (d : DkS) (o : DOpn) (Q : List (DOpn × Nat)) (hx : XOk (s, Q) d) (hd : d.ok) (he : opE d o = 0) (k4 : o.kd = 4) : DFun Try.prog 57 [.loc 1 0, .agg (oD o)] [.fam (s).B, .mix 86 (cG ((s).g) ((s).h) (.arr 2) d.dn d.fu), .arx 44 3 Q.length (Q.flatMap (oF 0))] (.val (.int .i64 0)) [.fam ((stGs s Q)).B, .mix 86 (cG (((stGs s Q)).g) (((stGs s Q)).h) (.val (.slice none 0 0)) d.dn (fuB d.fu)), .arx 44 3 Q.length (Q.flatMap (oF 0))] := by
  obtain ⟨kd, z, b⟩ := o
  obtain rfl : kd = 4 := k4
  obtain ⟨h1, h2, h3, h4⟩ := opE_0 he
  have hlen := hx.len
  have := (chk0_parts (chk_parts hd).1).2.2.2
  exact try_sync_ok s d.dn d.fu z b Q h1 h2 h4 (chk0_parts (chk_parts hd).1).2.1 hx.g (hx.may hd) (by have e : Q.length = d.w.length := hlen; omega) (stGs_bd (hx.may hd) (hx.few hd))
theorem tryU_w (s : DSt) (d : DkS) (o : DOpn) (Q : List (DOpn × Nat)) (hx : XOk (s, Q) d) (hd : d.ok) (he : opE d o = 0) (k4 : o.kd ≠ 4) (hob : o.b.length ≤ 10000000) : DFun Try.prog 57 [.loc 1 0, .agg (oD o)] [.fam (s).B, .mix 86 (cG ((s).g) ((s).h) (.arr 2) d.dn d.fu), .arx 44 3 Q.length (Q.flatMap (oF 0))] (.val (.int .i64 0)) [.fam (s.B ++ [rowB o.b]), .mix 86 (cG (s.g) (s.h) (.arr 3) d.dn (fuB d.fu)), .gone, .arx 44 3 (Q.length + 1) ((Q ++ [(o, s.B.length)]).flatMap (oF 0))] := by
  obtain ⟨kd, z, b⟩ := o
  obtain ⟨h1, h2, h3, h4⟩ := opE_0 he
  obtain ⟨f1, f2⟩ := fullB_no (h3.resolve_left k4)
  have hq : Q.length < 4096 := by have e : Q.length = d.w.length := hx.len; omega
  have hf0 := (chk0_parts (chk_parts hd).1).2.1
  rcases mayO_kd h1 with e | e | e | e
  · obtain rfl : kd = 1 := e
    refine try_1_ok s d.dn d.fu z b Q h1 h2 hx.g (hx.may2 hd) (hx.few hd) hob ?_ hq h4 hf0
    have := f1 rfl
    have e1 : s.f = d.f := hx.f
    have e2 : Q.map Prod.fst = d.w := hx.w
    rw [e1, e2]; exact this
  · obtain rfl : kd = 2 := e
    exact try_2_ok s d.dn d.fu z b Q h1 h2 hq h4 hf0 hob
  · obtain rfl : kd = 3 := e
    exact try_3_ok s d.dn d.fu z b Q h1 h2 hq h4 hf0 hob
  · exact absurd e k4
theorem tryU_down (s : DSt) (d : DkS) (o : DOpn) (Q : List (DOpn × Nat)) (hx : XOk (s, Q) d) (hd : d.ok) (he : opE d o = 321) (hob : o.b.length ≤ 10000000) : DFun Try.prog 57 [.loc 1 0, .agg (oD o)] [.fam (s).B, .mix 86 (cG ((s).g) ((s).h) (.arr 2) d.dn d.fu), .arx 44 3 Q.length (Q.flatMap (oF 0))] (.val (.int .i64 321)) [.fam (s).B, .mix 86 (cG ((s).g) ((s).h) (.arr 2) true (dnS d).fu), .arx 44 3 Q.length (Q.flatMap (oF 0))] := by
  rcases opE_cases d o with ⟨_, e⟩ | ⟨h1, h2, _⟩ | ⟨_, _, _, _, e⟩ | ⟨h1, h2, h3, h4, _⟩ | ⟨_, _, _, _, e⟩
  · rw [he] at e; cases e
  · have e1 : (dnS d).fu = d.fu := by unfold dnS; rw [if_pos h2]
    rw [e1, h2]
    exact try_dead s true d.fu o Q h1 rfl
  · rw [he] at e; cases e
  · have e1 : (dnS d).fu = 0 := by unfold dnS; rw [if_neg (by rw [h2]; decide)]
    rw [e1]
    obtain ⟨kd, z, b⟩ := o
    by_cases k4 : kd = 4
    · subst k4; exact try_sync_down s d.dn d.fu z b Q h1 h2 h4
    · obtain ⟨f1, f2⟩ := fullB_no (h3.resolve_left k4)
      have hq : Q.length < 4096 := by have e : Q.length = d.w.length := hx.len; omega
      rcases mayO_kd h1 with e | e | e | e
      · obtain rfl : kd = 1 := e
        refine try_1_down s d.dn d.fu z b Q h1 h2 hx.g (hx.may2 hd) (hx.few hd) hob ?_ hq h4
        have := f1 rfl
        have e1 : s.f = d.f := hx.f
        have e2 : Q.map Prod.fst = d.w := hx.w
        rw [e1, e2]; exact this
      · obtain rfl : kd = 2 := e
        exact try_2_down s d.dn d.fu z b Q h1 h2 hq h4
      · obtain rfl : kd = 3 := e
        exact try_3_down s d.dn d.fu z b Q h1 h2 hq h4
      · exact absurd e k4
  · rw [he] at e; cases e
theorem tryU_bad (s : DSt) (d : DkS) (o : DOpn) (Q : List (DOpn × Nat)) (hx : XOk (s, Q) d) (hd : d.ok) (h0 : opE d o ≠ 0) (h9 : opE d o ≠ 321) (hob : o.b.length ≤ 10000000) : DFun Try.prog 57 [.loc 1 0, .agg (oD o)] [.fam (s).B, .mix 86 (cG ((s).g) ((s).h) (.arr 2) d.dn d.fu), .arx 44 3 Q.length (Q.flatMap (oF 0))] (.val (.int .i64 (opE d o))) [.fam (s).B, .mix 86 (cG ((s).g) ((s).h) (.arr 2) d.dn d.fu), .arx 44 3 Q.length (Q.flatMap (oF 0))] := by
  rcases opE_cases d o with ⟨h1, e⟩ | ⟨h1, h2, e⟩ | ⟨h1, h2, h3, h4, e⟩ | ⟨h1, h2, h3, h4, e⟩ | ⟨_, _, _, _, e⟩
  · rw [e]; exact try_arg s d.dn d.fu o Q h1
  · exact absurd e h9
  · rw [e]
    obtain ⟨kd, z, b⟩ := o
    have hqe : Q.length = d.w.length := hx.len
    have e1 : s.f = d.f := hx.f
    have e2 : Q.map Prod.fst = d.w := hx.w
    rcases mayO_kd h1 with e | e | e | e
    · obtain rfl : kd = 1 := e
      by_cases hfit : (afts (szs s.f) (Q.map Prod.fst)).getD z.toNat 0 + b.length ≤ 4194304
      · have hq : ¬ Q.length < 4096 := by
          rcases fullB_yes h4 with ⟨_, h⟩ | h
          · rw [e1, e2] at hfit; exact absurd hfit h
          · omega
        exact try_1_full s d.dn d.fu z b Q h1 h2 hx.g (hx.may2 hd) (hx.few hd) hob hfit hq
      · exact try_1_big s d.dn d.fu z b Q h1 h2 hx.g (hx.may2 hd) (hx.few hd) hob hfit
    · obtain rfl : kd = 2 := e
      refine try_2_full s d.dn d.fu z b Q h1 h2 ?_
      rcases fullB_yes h4 with ⟨h, _⟩ | h
      · cases h
      · omega
    · obtain rfl : kd = 3 := e
      refine try_3_full s d.dn d.fu z b Q h1 h2 ?_
      rcases fullB_yes h4 with ⟨h, _⟩ | h
      · cases h
      · omega
    · exact absurd e h3
  · exact absurd e h9
  · exact absurd e h0
end Go.Proofs.Ytjecmkaggobcjaa

namespace Go.Proofs.Ytjecmkaggobcjaa
set_option linter.unusedVariables false
set_option linter.unusedSimpArgs false
open Go.RowKit
set_option maxRecDepth 4000 in
set_option maxHeartbeats 1000000 in
theorem run_ok (d : DkS) (l : List DOpn) (hd : d.ok) (hl : l.length ≤ 10000) (hlb : ∀ o ∈ l, o.b.length ≤ 10000000) (hok : okK d l l.length) : DFun Try.prog 26 [.agg (dD d.f d.h d.w d.dn d.fu), .slm 3 (l).length ((l).flatMap oD)] [] (.tup [.agg (cG (XK d l l.length).1.g (XK d l l.length).1.h (.arr 1) ((stK d l l.length).dn) ((stK d l l.length).fu)), .val (.int .i64 ((l.length : Int))), .val (.int .i64 0)]) [.fam (XK d l l.length).1.B, .arx 44 3 (XK d l l.length).2.length ((XK d l l.length).2.flatMap (oF 0))] := by
  refine dcalls_go (N := 54) 0 (by kernel_rfl) Try.func26 rfl rfl rfl (by simp only [fr0, Nat.zero_add, Nat.reduceAdd]; exact rfl) rfl fun s0 hs0 => ?_
  refine dwp_lenm (t := 1) rfl fun hl1 hL1 => ?_
  refine dwp_seq ?_
  refine dwp_holes 1 (by simp only [holes, List.cons_append, List.nil_append]; exact rfl) ?_
  refine dwp_region ?_
  refine walk_r rfl rfl rfl (op_boxf rfl rfl (ev1 rfl)) ?_
  refine walk_w rfl rfl rfl (op_alloc 0 rfl zr26 rfl) (by simp only [upd, List.set_cons_zero, List.set_cons_succ]; exact rfl) ?_
  refine walk_r rfl rfl rfl (op_move (.inr rfl) (ev1 rfl)) ?_
  refine walk_r rfl rfl rfl (op_move (.inr rfl) (ev1 rfl)) ?_
  refine walk_nil ?_
  refine dwp_seq ?_
  refine dwp_seq ?_
  refine dwp_region ?_
  refine walk_r rfl rfl rfl (op_lddr rfl tb26 (ev1 rfl) rfl rfl) ?_
  refine walk_r rfl rfl rfl (dop_call [] [] [] rfl (ev1 rfl) (ec (ev1 rfl) en) rfl rfl (check_d d.f d.h d.w d.dn d.fu (few_of hd)) rfl rfl rfl rfl rfl rfl) ?_
  refine walk_r rfl rfl rfl (op_move (.inr rfl) (ev1 rfl)) ?_
  refine walk_nil ?_
  refine dwp_seq ?_
  refine dwp_region ?_
  refine walk_r rfl rfl rfl (op_move (.inl rfl) (ev1 rfl)) ?_
  refine walk_r rfl rfl rfl (op_neq rfl (ev1 rfl) (ev1 rfl)) ?_
  refine walk_nil ?_
  refine dwp_if_f rfl (by rw [if_pos (show chkB d.f d.h d.w d.dn d.fu = true from hd)]; rfl) ?_
  refine dwp_skip ?_
  refine dwp_seq ?_
  refine dwp_hole ?_
  refine dwp_fam 1 rfl (by simp only [List.cons_append, List.nil_append, List.set_cons_zero, List.set_cons_succ]; exact rfl) ?_
  refine dwp_holes 2 (by simp only [holes, List.cons_append, List.nil_append]; exact rfl) ?_
  refine dwp_region ?_
  refine walk_r rfl rfl rfl (op_lddr rfl tb26 (ev1 rfl) rfl rfl) ?_
  refine walk_w rfl rfl rfl (dop_call [1] [] [2, 3] rfl (ev1 rfl) (ec (ev1 rfl) en) rfl rfl (chof_Q d.f d.h d.w d.dn d.fu (allF_at hd) (few_of hd)) rfl rfl rfl (by exact (wrc rfl (wrc rfl (wrc (by first | exact rfl | exact sb_arx (fun _ => rfl) | exact sb_arxr (nlL_flatR (fun _ => rfl) _) | exact sb_arxg (fun _ => rfl) | exact sb_arxs (fun _ => rfl)) rfl)))) rfl rfl) (by simp only [upd, List.set_cons_zero, List.set_cons_succ]; exact rfl) ?_
  refine walk_r rfl rfl rfl (op_move (.inr rfl) (ev1 rfl)) ?_
  refine walk_nil ?_
  refine dwp_seq ?_
  refine dwp_region ?_
  refine walk_r rfl rfl rfl (op_move (.inl rfl) (ev1 rfl)) ?_
  refine walk_r rfl rfl rfl (op_mkf rfl (ec (ev1 rfl) en) en) ?_
  refine walk_r rfl rfl rfl (op_move (.inr rfl) (ev1 rfl)) ?_
  refine walk_nil ?_
  refine dwp_seq ?_
  refine dwp_seq ?_
  refine dwp_region ?_
  refine walk_r rfl rfl rfl (op_move (.inl rfl) (ev1 rfl)) ?_
  refine walk_r rfl rfl rfl (op_lenm rfl sl24 (ev1 rfl)) ?_
  refine walk_r rfl rfl rfl (op_move (.inl rfl) (ev1 rfl)) ?_
  refine walk_nil ?_
  refine dwp_block ?_
  refine dwp_loopS ⟨hs0, rfl⟩ (α := Nat) (fun k => [(25, .val (.int .i64 (k : Int)))]) [(1, _), (4, _), (8, _), (9, _), (23, _), (24, _)] (fun k => [(1, .fam (XK d l k).1.B), (2, .mix 86 (cGm 1 (XK d l k).1.g (XK d l k).1.h (.arr 3) ((stK d l k).dn) ((stK d l k).fu))), (3, .arx 44 3 (XK d l k).2.length ((XK d l k).2.flatMap (oF 1)))]) [_, .hole, .hole, .hole] (fun k => k ≤ l.length) (fun k => l.length - k) 0 [0, 1, 2, 3] (by simp) rfl ⟨rfl, rfl, rfl, rfl, rfl, rfl, trivial⟩ ⟨rfl, trivial⟩ ⟨rfl, rfl, rfl, ox_fits (by rfl) rfl rfl, trivial⟩ ?_
  intro k hx
  simp only [upd, List.set_cons_zero, List.set_cons_succ, List.cons_append, List.nil_append]
  have hk := hx
  refine dwp_seq ?_
  refine dwp_region ?_
  refine walk_r rfl rfl rfl (op_lss rfl (ev1 rfl) (ev1 rfl)) ?_
  refine walk_nil ?_
  refine dwp_seq ?_
  refine dwp_cond rfl (fun c2 => ?_) (fun c2 => ?_)
  · try simp only [decide_eq_true_eq, decide_eq_false_iff_not, beq_iff_eq, bne_iff_ne, beq_eq_false_iff_ne, bne_eq_false_iff_eq, Bool.not_eq_true', Bool.not_eq_false', Bool.and_eq_true, Bool.or_eq_true, Bool.or_eq_false_iff, ne_eq, Decidable.not_not, Int.not_lt, Int.not_le] at c2
    refine dwp_skip ?_
    refine dwp_seq ?_
    refine dwp_block ?_
    refine dwp_seq ?_
    have hkl : k < l.length := by omega
    have hok0 : okK d l k := fun i hi _ => hok i hi hi
    have hdk := stK_ok hd k (by omega) hok0
    have hxk := XK_ok hd k (by omega) hok0
    refine dwp_holes 1 (by simp only [holes, List.cons_append, List.nil_append]; exact rfl) ?_
    refine dwp_region ?_
    refine walk_r rfl rfl rfl (op_move (.inl rfl) (ev1 rfl)) ?_
    refine walk_r rfl rfl rfl (op_ixmr (k) (by decide) rfl sl24 (ev1 rfl) (ev1 rfl) (fun _ => rfl) (by omega) (fun _ => rfl)) ?_
    refine walk_r rfl rfl rfl (op_lddr rfl tb44 (ev1 rfl) rfl rfl) ?_
    refine walk_w rfl rfl rfl (op_alloc 4 rfl zr44 rfl) (by simp only [upd, List.set_cons_zero, List.set_cons_succ]; exact rfl) ?_
    refine walk_r rfl rfl rfl (op_move (.inr rfl) (ev1 rfl)) ?_
    refine walk_s rfl rfl (op_stam rfl tb44 (ev1 rfl) (ev1 rfl) rfl rfl rfl rfl) (by simp only [upd, List.set_cons_zero, List.set_cons_succ]; exact rfl) ?_
    refine walk_nil ?_
    refine dwp_seq ?_
    by_cases k4 : (l[k]'hkl).kd = 4
    · refine dwp_region ?_
      refine walk_r rfl rfl rfl (op_move (.inl rfl) (ev1 rfl)) ?_
      refine walk_r rfl rfl rfl (op_ldmw rfl tb44 (ev1 rfl) rfl rfl) ?_
      refine walk_w rfl rfl rfl (dop_call [1, 2, 3] [] [] rfl (ev1 rfl) (ec (ev1 rfl) en) rfl (by exact mfits _ _ ⟨rfl, rfl, (by first | exact rfl | exact arx_fits rfl rfl (vwL_flat (fun _ => rfl) _) | exact arxr_fits rfl rfl (nlL_flatR (fun _ => rfl) _) | exact arxg_fits rfl rfl (fun _ => rfl) | exact arxs_fits rfl rfl (fun _ => rfl)), trivial⟩) (tryU_4 (XK d l k).1 (stK d l k) l[k] (XK d l k).2 hxk hdk (hok k hkl hkl) k4) rfl rfl rfl (by exact (wrc rfl (wrc rfl (wrc (by first | exact rfl | exact sb_arx (fun _ => rfl) | exact sb_arxr (nlL_flatR (fun _ => rfl) _) | exact sb_arxg (fun _ => rfl) | exact sb_arxs (fun _ => rfl)) rfl)))) rfl rfl) (by simp only [upd, List.set_cons_zero, List.set_cons_succ]; exact rfl) ?_
      refine walk_r rfl rfl rfl (op_move (.inr rfl) (ev1 rfl)) ?_
      refine walk_nil ?_
      refine dwp_seq ?_
      refine dwp_region ?_
      refine walk_r rfl rfl rfl (op_move (.inl rfl) (ev1 rfl)) ?_
      refine walk_nil ?_
      refine dwp_block ?_
      refine dwp_seq ?_
      refine dwp_region ?_
      refine walk_r rfl rfl rfl (op_eql rfl (ev1 rfl) (ev1 rfl)) ?_
      refine walk_r rfl rfl rfl (op_move (.inr rfl) (ev1 rfl)) ?_
      refine walk_nil ?_
      refine dwp_if_t rfl (rfl) ?_
      refine dwp_skip ?_
      refine dwp_adoptc (l' := cGm 1 (stGs (XK d l k).1 (XK d l k).2).g (stGs (XK d l k).1 (XK d l k).2).h (.arr 5) (stK d l k).dn (fuB (stK d l k).fu)) 2 5 44 3 rfl rfl rfl rfl (by simp only [List.cons_append, List.nil_append, List.set_cons_zero, List.set_cons_succ]; exact rfl) ?_
      refine dwp_region ?_
      refine walk_r rfl rfl rfl (op_add' rfl (ev1 rfl) (ev1 rfl) (fun _ => IntWalk.i64_in _ (by omega))) ?_
      refine walk_r rfl rfl rfl (op_move (.inl rfl) (ev1 rfl)) ?_
      refine walk_nil ?_
      refine ⟨k + 1, [0, 1, 2, 5], by omega, by simp only []; omega, rfl, ⟨rfl, rfl, rfl, rfl, rfl, rfl, rfl, trivial⟩, ⟨rfl, congrArg (fun b => some (Blk.fam b)) (by rw [XK_succ hkl]; unfold stepX; rw [if_pos k4]), by rw [XK_succ hkl, stK_succ hkl]; unfold stepX okS; rw [if_pos k4, if_pos k4]; rfl, by rw [XK_succ hkl]; unfold stepX; rw [if_pos k4]; rfl, trivial⟩⟩
    · refine dwp_holes 1 (by simp only [holes, List.cons_append, List.nil_append]; exact rfl) ?_
      refine dwp_region ?_
      refine walk_r rfl rfl rfl (op_move (.inl rfl) (ev1 rfl)) ?_
      refine walk_r rfl rfl rfl (op_ldmw rfl tb44 (ev1 rfl) rfl rfl) ?_
      refine walk_w rfl rfl rfl (dop_call [1, 2, 3] [] [5] rfl (ev1 rfl) (ec (ev1 rfl) en) rfl (by exact mfits _ _ ⟨rfl, rfl, (by first | exact rfl | exact arx_fits rfl rfl (vwL_flat (fun _ => rfl) _) | exact arxr_fits rfl rfl (nlL_flatR (fun _ => rfl) _) | exact arxg_fits rfl rfl (fun _ => rfl) | exact arxs_fits rfl rfl (fun _ => rfl)), trivial⟩) (tryU_w (XK d l k).1 (stK d l k) l[k] (XK d l k).2 hxk hdk (hok k hkl hkl) k4 (hlb _ (List.getElem_mem hkl))) rfl rfl rfl (by exact (wrc rfl (wrc rfl (wrc rfl (wrc (by first | exact rfl | exact sb_arx (fun _ => rfl) | exact sb_arxr (nlL_flatR (fun _ => rfl) _) | exact sb_arxg (fun _ => rfl) | exact sb_arxs (fun _ => rfl)) rfl))))) rfl rfl) (by simp only [upd, List.set_cons_zero, List.set_cons_succ]; exact rfl) ?_
      refine walk_r rfl rfl rfl (op_move (.inr rfl) (ev1 rfl)) ?_
      refine walk_nil ?_
      refine dwp_seq ?_
      refine dwp_region ?_
      refine walk_r rfl rfl rfl (op_move (.inl rfl) (ev1 rfl)) ?_
      refine walk_nil ?_
      refine dwp_block ?_
      refine dwp_seq ?_
      refine dwp_region ?_
      refine walk_r rfl rfl rfl (op_eql rfl (ev1 rfl) (ev1 rfl)) ?_
      refine walk_r rfl rfl rfl (op_move (.inr rfl) (ev1 rfl)) ?_
      refine walk_nil ?_
      refine dwp_if_t rfl (rfl) ?_
      refine dwp_skip ?_
      refine dwp_region ?_
      refine walk_r rfl rfl rfl (op_add' rfl (ev1 rfl) (ev1 rfl) (fun _ => IntWalk.i64_in _ (by omega))) ?_
      refine walk_r rfl rfl rfl (op_move (.inl rfl) (ev1 rfl)) ?_
      refine walk_nil ?_
      refine ⟨k + 1, [0, 1, 2, 5], by omega, by simp only []; omega, rfl, ⟨rfl, rfl, rfl, rfl, rfl, rfl, rfl, trivial⟩, ⟨rfl, congrArg (fun b => some (Blk.fam b)) (by rw [XK_succ hkl]; unfold stepX; rw [if_neg k4]), by rw [XK_succ hkl, stK_succ hkl]; unfold stepX okS; rw [if_neg k4, if_neg k4]; rfl, ox_fits (by rw [XK_succ hkl]; unfold stepX; rw [if_neg k4]; simp) (by rw [XK_succ hkl]; unfold stepX; rw [if_neg k4]) rfl, trivial⟩⟩
  · try simp only [decide_eq_true_eq, decide_eq_false_iff_not, beq_iff_eq, bne_iff_ne, beq_eq_false_iff_ne, bne_eq_false_iff_eq, Bool.not_eq_true', Bool.not_eq_false', Bool.and_eq_true, Bool.or_eq_true, Bool.or_eq_false_iff, ne_eq, Decidable.not_not, Int.not_lt, Int.not_le] at c2
    refine dwp_exit ?_
    refine dwp_seq ?_
    obtain rfl : k = l.length := by omega
    refine dwp_region ?_
    refine walk_r rfl rfl rfl (op_move (.inl rfl) (ev1 rfl)) ?_
    refine walk_r rfl rfl rfl (op_nc rfl (ev1 rfl) (fun s v h => by cases h; exact ⟨_, rfl⟩)) ?_
    refine walk_r rfl rfl rfl (op_fa rfl fo86_0 (ev1 rfl)) ?_
    refine walk_r rfl rfl rfl (op_ldmw rfl tb26 (ev1 rfl) rfl rfl) ?_
    refine walk_r rfl rfl rfl (op_move (.inl rfl) (ev1 rfl)) ?_
    refine walk_r rfl rfl rfl (op_lenm rfl sl24 (ev1 rfl)) ?_
    refine walk_s rfl rfl (op_stam rfl tb26 (ev1 rfl) (ev1 rfl) rfl rfl rfl rfl) (by simp only [upd, List.set_cons_zero, List.set_cons_succ]; exact rfl) ?_
    refine walk_r rfl rfl rfl (op_move (.inr rfl) (ev1 rfl)) ?_
    refine walk_r rfl rfl rfl (op_move (.inr rfl) (ev1 rfl)) ?_
    refine walk_nil ?_
    refine dwp_ret ?_
    refine kend [1, 3] (rs3 rfl (rv_mw tb26 rfl rfl rfl) (rv_t rfl) (rv_t rfl)) rfl rfl ?_ ⟨?_, ?_, trivial⟩
    rfl
    all_goals first | exact rfl | exact ox_fits rfl rfl rfl
set_option maxRecDepth 4000 in
set_option maxHeartbeats 1000000 in
theorem run_down (d : DkS) (l : List DOpn) (hd : d.ok) (hl : l.length ≤ 10000) (hlb : ∀ o ∈ l, o.b.length ≤ 10000000) (j : Nat) (hj : j < l.length) (hok : okK d l j) (he : opE (stK d l j) l[j] = 321) : DFun Try.prog 26 [.agg (dD d.f d.h d.w d.dn d.fu), .slm 3 (l).length ((l).flatMap oD)] [] (.tup [.agg (cG (XK d l j).1.g (XK d l j).1.h (.arr 1) (true) ((dnS (stK d l j)).fu)), .val (.int .i64 ((j : Int))), .val (.int .i64 321)]) [.fam (XK d l j).1.B, .arx 44 3 (XK d l j).2.length ((XK d l j).2.flatMap (oF 0))] := by
  refine dcalls_go (N := 54) 0 (by kernel_rfl) Try.func26 rfl rfl rfl (by simp only [fr0, Nat.zero_add, Nat.reduceAdd]; exact rfl) rfl fun s0 hs0 => ?_
  refine dwp_lenm (t := 1) rfl fun hl1 hL1 => ?_
  refine dwp_seq ?_
  refine dwp_holes 1 (by simp only [holes, List.cons_append, List.nil_append]; exact rfl) ?_
  refine dwp_region ?_
  refine walk_r rfl rfl rfl (op_boxf rfl rfl (ev1 rfl)) ?_
  refine walk_w rfl rfl rfl (op_alloc 0 rfl zr26 rfl) (by simp only [upd, List.set_cons_zero, List.set_cons_succ]; exact rfl) ?_
  refine walk_r rfl rfl rfl (op_move (.inr rfl) (ev1 rfl)) ?_
  refine walk_r rfl rfl rfl (op_move (.inr rfl) (ev1 rfl)) ?_
  refine walk_nil ?_
  refine dwp_seq ?_
  refine dwp_seq ?_
  refine dwp_region ?_
  refine walk_r rfl rfl rfl (op_lddr rfl tb26 (ev1 rfl) rfl rfl) ?_
  refine walk_r rfl rfl rfl (dop_call [] [] [] rfl (ev1 rfl) (ec (ev1 rfl) en) rfl rfl (check_d d.f d.h d.w d.dn d.fu (few_of hd)) rfl rfl rfl rfl rfl rfl) ?_
  refine walk_r rfl rfl rfl (op_move (.inr rfl) (ev1 rfl)) ?_
  refine walk_nil ?_
  refine dwp_seq ?_
  refine dwp_region ?_
  refine walk_r rfl rfl rfl (op_move (.inl rfl) (ev1 rfl)) ?_
  refine walk_r rfl rfl rfl (op_neq rfl (ev1 rfl) (ev1 rfl)) ?_
  refine walk_nil ?_
  refine dwp_if_f rfl (by rw [if_pos (show chkB d.f d.h d.w d.dn d.fu = true from hd)]; rfl) ?_
  refine dwp_skip ?_
  refine dwp_seq ?_
  refine dwp_hole ?_
  refine dwp_fam 1 rfl (by simp only [List.cons_append, List.nil_append, List.set_cons_zero, List.set_cons_succ]; exact rfl) ?_
  refine dwp_holes 2 (by simp only [holes, List.cons_append, List.nil_append]; exact rfl) ?_
  refine dwp_region ?_
  refine walk_r rfl rfl rfl (op_lddr rfl tb26 (ev1 rfl) rfl rfl) ?_
  refine walk_w rfl rfl rfl (dop_call [1] [] [2, 3] rfl (ev1 rfl) (ec (ev1 rfl) en) rfl rfl (chof_Q d.f d.h d.w d.dn d.fu (allF_at hd) (few_of hd)) rfl rfl rfl (by exact (wrc rfl (wrc rfl (wrc (by first | exact rfl | exact sb_arx (fun _ => rfl) | exact sb_arxr (nlL_flatR (fun _ => rfl) _) | exact sb_arxg (fun _ => rfl) | exact sb_arxs (fun _ => rfl)) rfl)))) rfl rfl) (by simp only [upd, List.set_cons_zero, List.set_cons_succ]; exact rfl) ?_
  refine walk_r rfl rfl rfl (op_move (.inr rfl) (ev1 rfl)) ?_
  refine walk_nil ?_
  refine dwp_seq ?_
  refine dwp_region ?_
  refine walk_r rfl rfl rfl (op_move (.inl rfl) (ev1 rfl)) ?_
  refine walk_r rfl rfl rfl (op_mkf rfl (ec (ev1 rfl) en) en) ?_
  refine walk_r rfl rfl rfl (op_move (.inr rfl) (ev1 rfl)) ?_
  refine walk_nil ?_
  refine dwp_seq ?_
  refine dwp_seq ?_
  refine dwp_region ?_
  refine walk_r rfl rfl rfl (op_move (.inl rfl) (ev1 rfl)) ?_
  refine walk_r rfl rfl rfl (op_lenm rfl sl24 (ev1 rfl)) ?_
  refine walk_r rfl rfl rfl (op_move (.inl rfl) (ev1 rfl)) ?_
  refine walk_nil ?_
  refine dwp_block ?_
  refine dwp_loopS ⟨hs0, rfl⟩ (α := Nat) (fun k => [(25, .val (.int .i64 (k : Int)))]) [(1, _), (4, _), (8, _), (9, _), (23, _), (24, _)] (fun k => [(1, .fam (XK d l k).1.B), (2, .mix 86 (cGm 1 (XK d l k).1.g (XK d l k).1.h (.arr 3) ((stK d l k).dn) ((stK d l k).fu))), (3, .arx 44 3 (XK d l k).2.length ((XK d l k).2.flatMap (oF 1)))]) [_, .hole, .hole, .hole] (fun k => k ≤ j) (fun k => l.length - k) 0 [0, 1, 2, 3] (by simp) rfl ⟨rfl, rfl, rfl, rfl, rfl, rfl, trivial⟩ ⟨rfl, trivial⟩ ⟨rfl, rfl, rfl, ox_fits (by rfl) rfl rfl, trivial⟩ ?_
  intro k hx
  simp only [upd, List.set_cons_zero, List.set_cons_succ, List.cons_append, List.nil_append]
  have hk := hx
  refine dwp_seq ?_
  refine dwp_region ?_
  refine walk_r rfl rfl rfl (op_lss rfl (ev1 rfl) (ev1 rfl)) ?_
  refine walk_nil ?_
  refine dwp_seq ?_
  refine dwp_cond rfl (fun c2 => ?_) (fun c2 => ?_)
  · try simp only [decide_eq_true_eq, decide_eq_false_iff_not, beq_iff_eq, bne_iff_ne, beq_eq_false_iff_ne, bne_eq_false_iff_eq, Bool.not_eq_true', Bool.not_eq_false', Bool.and_eq_true, Bool.or_eq_true, Bool.or_eq_false_iff, ne_eq, Decidable.not_not, Int.not_lt, Int.not_le] at c2
    refine dwp_skip ?_
    refine dwp_seq ?_
    refine dwp_block ?_
    refine dwp_seq ?_
    have hkl : k < l.length := by omega
    have hok0 : okK d l k := fun i hi hik => hok i hi (by omega)
    have hdk := stK_ok hd k (by omega) hok0
    have hxk := XK_ok hd k (by omega) hok0
    refine dwp_holes 1 (by simp only [holes, List.cons_append, List.nil_append]; exact rfl) ?_
    refine dwp_region ?_
    refine walk_r rfl rfl rfl (op_move (.inl rfl) (ev1 rfl)) ?_
    refine walk_r rfl rfl rfl (op_ixmr (k) (by decide) rfl sl24 (ev1 rfl) (ev1 rfl) (fun _ => rfl) (by omega) (fun _ => rfl)) ?_
    refine walk_r rfl rfl rfl (op_lddr rfl tb44 (ev1 rfl) rfl rfl) ?_
    refine walk_w rfl rfl rfl (op_alloc 4 rfl zr44 rfl) (by simp only [upd, List.set_cons_zero, List.set_cons_succ]; exact rfl) ?_
    refine walk_r rfl rfl rfl (op_move (.inr rfl) (ev1 rfl)) ?_
    refine walk_s rfl rfl (op_stam rfl tb44 (ev1 rfl) (ev1 rfl) rfl rfl rfl rfl) (by simp only [upd, List.set_cons_zero, List.set_cons_succ]; exact rfl) ?_
    refine walk_nil ?_
    refine dwp_seq ?_
    by_cases hkj : k = j
    · subst hkj
      refine dwp_region ?_
      refine walk_r rfl rfl rfl (op_move (.inl rfl) (ev1 rfl)) ?_
      refine walk_r rfl rfl rfl (op_ldmw rfl tb44 (ev1 rfl) rfl rfl) ?_
      refine walk_w rfl rfl rfl (dop_call [1, 2, 3] [] [] rfl (ev1 rfl) (ec (ev1 rfl) en) rfl (by exact mfits _ _ ⟨rfl, rfl, (by first | exact rfl | exact arx_fits rfl rfl (vwL_flat (fun _ => rfl) _) | exact arxr_fits rfl rfl (nlL_flatR (fun _ => rfl) _) | exact arxg_fits rfl rfl (fun _ => rfl) | exact arxs_fits rfl rfl (fun _ => rfl)), trivial⟩) (tryU_down (XK d l k).1 (stK d l k) l[k] (XK d l k).2 hxk hdk he (hlb _ (List.getElem_mem hkl))) rfl rfl rfl (by exact (wrc rfl (wrc rfl (wrc (by first | exact rfl | exact sb_arx (fun _ => rfl) | exact sb_arxr (nlL_flatR (fun _ => rfl) _) | exact sb_arxg (fun _ => rfl) | exact sb_arxs (fun _ => rfl)) rfl)))) rfl rfl) (by simp only [upd, List.set_cons_zero, List.set_cons_succ]; exact rfl) ?_
      refine walk_r rfl rfl rfl (op_move (.inr rfl) (ev1 rfl)) ?_
      refine walk_nil ?_
      refine dwp_seq ?_
      refine dwp_region ?_
      refine walk_r rfl rfl rfl (op_move (.inl rfl) (ev1 rfl)) ?_
      refine walk_nil ?_
      refine dwp_block ?_
      refine dwp_seq ?_
      refine dwp_region ?_
      refine walk_r rfl rfl rfl (op_eql rfl (ev1 rfl) (ev1 rfl)) ?_
      refine walk_r rfl rfl rfl (op_move (.inr rfl) (ev1 rfl)) ?_
      refine walk_nil ?_
      refine dwp_if_f rfl (rfl) ?_
      refine dwp_seq ?_
      refine dwp_region ?_
      refine walk_r rfl rfl rfl (op_eql rfl (ev1 rfl) (ev1 rfl)) ?_
      refine walk_r rfl rfl rfl (op_move (.inr rfl) (ev1 rfl)) ?_
      refine walk_nil ?_
      refine dwp_if_t rfl (rfl) ?_
      refine dwp_seq ?_
      refine dwp_region ?_
      refine walk_r rfl rfl rfl (op_move (.inl rfl) (ev1 rfl)) ?_
      refine walk_r rfl rfl rfl (op_nc rfl (ev1 rfl) (fun s v h => by cases h; exact ⟨_, rfl⟩)) ?_
      refine walk_r rfl rfl rfl (op_fa rfl fo86_0 (ev1 rfl)) ?_
      refine walk_r rfl rfl rfl (op_ldmw rfl tb26 (ev1 rfl) rfl rfl) ?_
      refine walk_r rfl rfl rfl (op_move (.inl rfl) (ev1 rfl)) ?_
      refine walk_r rfl rfl rfl (op_move (.inl rfl) (ev1 rfl)) ?_
      refine walk_s rfl rfl (op_stam rfl tb26 (ev1 rfl) (ev1 rfl) rfl rfl rfl rfl) (by simp only [upd, List.set_cons_zero, List.set_cons_succ]; exact rfl) ?_
      refine walk_r rfl rfl rfl (op_move (.inr rfl) (ev1 rfl)) ?_
      refine walk_r rfl rfl rfl (op_move (.inr rfl) (ev1 rfl)) ?_
      refine walk_nil ?_
      refine dwp_ret ?_
      refine kend [1, 3] (rs3 rfl (rv_mw tb26 rfl rfl rfl) (rv_t rfl) (rv_t rfl)) rfl rfl ?_ ⟨?_, ?_, trivial⟩
      rfl
      all_goals first | exact rfl | exact ox_fits rfl rfl rfl
    · by_cases k4 : (l[k]'hkl).kd = 4
      · refine dwp_region ?_
        refine walk_r rfl rfl rfl (op_move (.inl rfl) (ev1 rfl)) ?_
        refine walk_r rfl rfl rfl (op_ldmw rfl tb44 (ev1 rfl) rfl rfl) ?_
        refine walk_w rfl rfl rfl (dop_call [1, 2, 3] [] [] rfl (ev1 rfl) (ec (ev1 rfl) en) rfl (by exact mfits _ _ ⟨rfl, rfl, (by first | exact rfl | exact arx_fits rfl rfl (vwL_flat (fun _ => rfl) _) | exact arxr_fits rfl rfl (nlL_flatR (fun _ => rfl) _) | exact arxg_fits rfl rfl (fun _ => rfl) | exact arxs_fits rfl rfl (fun _ => rfl)), trivial⟩) (tryU_4 (XK d l k).1 (stK d l k) l[k] (XK d l k).2 hxk hdk (hok k hkl (by omega)) k4) rfl rfl rfl (by exact (wrc rfl (wrc rfl (wrc (by first | exact rfl | exact sb_arx (fun _ => rfl) | exact sb_arxr (nlL_flatR (fun _ => rfl) _) | exact sb_arxg (fun _ => rfl) | exact sb_arxs (fun _ => rfl)) rfl)))) rfl rfl) (by simp only [upd, List.set_cons_zero, List.set_cons_succ]; exact rfl) ?_
        refine walk_r rfl rfl rfl (op_move (.inr rfl) (ev1 rfl)) ?_
        refine walk_nil ?_
        refine dwp_seq ?_
        refine dwp_region ?_
        refine walk_r rfl rfl rfl (op_move (.inl rfl) (ev1 rfl)) ?_
        refine walk_nil ?_
        refine dwp_block ?_
        refine dwp_seq ?_
        refine dwp_region ?_
        refine walk_r rfl rfl rfl (op_eql rfl (ev1 rfl) (ev1 rfl)) ?_
        refine walk_r rfl rfl rfl (op_move (.inr rfl) (ev1 rfl)) ?_
        refine walk_nil ?_
        refine dwp_if_t rfl (rfl) ?_
        refine dwp_skip ?_
        refine dwp_adoptc (l' := cGm 1 (stGs (XK d l k).1 (XK d l k).2).g (stGs (XK d l k).1 (XK d l k).2).h (.arr 5) (stK d l k).dn (fuB (stK d l k).fu)) 2 5 44 3 rfl rfl rfl rfl (by simp only [List.cons_append, List.nil_append, List.set_cons_zero, List.set_cons_succ]; exact rfl) ?_
        refine dwp_region ?_
        refine walk_r rfl rfl rfl (op_add' rfl (ev1 rfl) (ev1 rfl) (fun _ => IntWalk.i64_in _ (by omega))) ?_
        refine walk_r rfl rfl rfl (op_move (.inl rfl) (ev1 rfl)) ?_
        refine walk_nil ?_
        refine ⟨k + 1, [0, 1, 2, 5], by omega, by simp only []; omega, rfl, ⟨rfl, rfl, rfl, rfl, rfl, rfl, rfl, trivial⟩, ⟨rfl, congrArg (fun b => some (Blk.fam b)) (by rw [XK_succ hkl]; unfold stepX; rw [if_pos k4]), by rw [XK_succ hkl, stK_succ hkl]; unfold stepX okS; rw [if_pos k4, if_pos k4]; rfl, by rw [XK_succ hkl]; unfold stepX; rw [if_pos k4]; rfl, trivial⟩⟩
      · refine dwp_holes 1 (by simp only [holes, List.cons_append, List.nil_append]; exact rfl) ?_
        refine dwp_region ?_
        refine walk_r rfl rfl rfl (op_move (.inl rfl) (ev1 rfl)) ?_
        refine walk_r rfl rfl rfl (op_ldmw rfl tb44 (ev1 rfl) rfl rfl) ?_
        refine walk_w rfl rfl rfl (dop_call [1, 2, 3] [] [5] rfl (ev1 rfl) (ec (ev1 rfl) en) rfl (by exact mfits _ _ ⟨rfl, rfl, (by first | exact rfl | exact arx_fits rfl rfl (vwL_flat (fun _ => rfl) _) | exact arxr_fits rfl rfl (nlL_flatR (fun _ => rfl) _) | exact arxg_fits rfl rfl (fun _ => rfl) | exact arxs_fits rfl rfl (fun _ => rfl)), trivial⟩) (tryU_w (XK d l k).1 (stK d l k) l[k] (XK d l k).2 hxk hdk (hok k hkl (by omega)) k4 (hlb _ (List.getElem_mem hkl))) rfl rfl rfl (by exact (wrc rfl (wrc rfl (wrc rfl (wrc (by first | exact rfl | exact sb_arx (fun _ => rfl) | exact sb_arxr (nlL_flatR (fun _ => rfl) _) | exact sb_arxg (fun _ => rfl) | exact sb_arxs (fun _ => rfl)) rfl))))) rfl rfl) (by simp only [upd, List.set_cons_zero, List.set_cons_succ]; exact rfl) ?_
        refine walk_r rfl rfl rfl (op_move (.inr rfl) (ev1 rfl)) ?_
        refine walk_nil ?_
        refine dwp_seq ?_
        refine dwp_region ?_
        refine walk_r rfl rfl rfl (op_move (.inl rfl) (ev1 rfl)) ?_
        refine walk_nil ?_
        refine dwp_block ?_
        refine dwp_seq ?_
        refine dwp_region ?_
        refine walk_r rfl rfl rfl (op_eql rfl (ev1 rfl) (ev1 rfl)) ?_
        refine walk_r rfl rfl rfl (op_move (.inr rfl) (ev1 rfl)) ?_
        refine walk_nil ?_
        refine dwp_if_t rfl (rfl) ?_
        refine dwp_skip ?_
        refine dwp_region ?_
        refine walk_r rfl rfl rfl (op_add' rfl (ev1 rfl) (ev1 rfl) (fun _ => IntWalk.i64_in _ (by omega))) ?_
        refine walk_r rfl rfl rfl (op_move (.inl rfl) (ev1 rfl)) ?_
        refine walk_nil ?_
        refine ⟨k + 1, [0, 1, 2, 5], by omega, by simp only []; omega, rfl, ⟨rfl, rfl, rfl, rfl, rfl, rfl, rfl, trivial⟩, ⟨rfl, congrArg (fun b => some (Blk.fam b)) (by rw [XK_succ hkl]; unfold stepX; rw [if_neg k4]), by rw [XK_succ hkl, stK_succ hkl]; unfold stepX okS; rw [if_neg k4, if_neg k4]; rfl, ox_fits (by rw [XK_succ hkl]; unfold stepX; rw [if_neg k4]; simp) (by rw [XK_succ hkl]; unfold stepX; rw [if_neg k4]) rfl, trivial⟩⟩
  · exact absurd (show (k : Int) < (l.length : Int) by omega) (of_decide_eq_false c2)
set_option maxRecDepth 4000 in
set_option maxHeartbeats 1000000 in
theorem run_bad (d : DkS) (l : List DOpn) (hd : d.ok) (hl : l.length ≤ 10000) (hlb : ∀ o ∈ l, o.b.length ≤ 10000000) (j : Nat) (hj : j < l.length) (hok : okK d l j) (h0 : opE (stK d l j) l[j] ≠ 0) (h9 : opE (stK d l j) l[j] ≠ 321) : DFun Try.prog 26 [.agg (dD d.f d.h d.w d.dn d.fu), .slm 3 (l).length ((l).flatMap oD)] [] (.tup [.val (.agg #[.slice none 0 0, .slice none 0 0, .slice none 0 0, .slice none 0 0, .int .i64 0, .slice none 0 0, .bool false, .int .i64 0]), .val (.int .i64 (j : Int)), .val (.int .i64 (opE (stK d l j) l[j]))]) [] := by
  refine dcalls_go (N := 54) 0 (by kernel_rfl) Try.func26 rfl rfl rfl (by simp only [fr0, Nat.zero_add, Nat.reduceAdd]; exact rfl) rfl fun s0 hs0 => ?_
  refine dwp_lenm (t := 1) rfl fun hl1 hL1 => ?_
  refine dwp_seq ?_
  refine dwp_holes 1 (by simp only [holes, List.cons_append, List.nil_append]; exact rfl) ?_
  refine dwp_region ?_
  refine walk_r rfl rfl rfl (op_boxf rfl rfl (ev1 rfl)) ?_
  refine walk_w rfl rfl rfl (op_alloc 0 rfl zr26 rfl) (by simp only [upd, List.set_cons_zero, List.set_cons_succ]; exact rfl) ?_
  refine walk_r rfl rfl rfl (op_move (.inr rfl) (ev1 rfl)) ?_
  refine walk_r rfl rfl rfl (op_move (.inr rfl) (ev1 rfl)) ?_
  refine walk_nil ?_
  refine dwp_seq ?_
  refine dwp_seq ?_
  refine dwp_region ?_
  refine walk_r rfl rfl rfl (op_lddr rfl tb26 (ev1 rfl) rfl rfl) ?_
  refine walk_r rfl rfl rfl (dop_call [] [] [] rfl (ev1 rfl) (ec (ev1 rfl) en) rfl rfl (check_d d.f d.h d.w d.dn d.fu (few_of hd)) rfl rfl rfl rfl rfl rfl) ?_
  refine walk_r rfl rfl rfl (op_move (.inr rfl) (ev1 rfl)) ?_
  refine walk_nil ?_
  refine dwp_seq ?_
  refine dwp_region ?_
  refine walk_r rfl rfl rfl (op_move (.inl rfl) (ev1 rfl)) ?_
  refine walk_r rfl rfl rfl (op_neq rfl (ev1 rfl) (ev1 rfl)) ?_
  refine walk_nil ?_
  refine dwp_if_f rfl (by rw [if_pos (show chkB d.f d.h d.w d.dn d.fu = true from hd)]; rfl) ?_
  refine dwp_skip ?_
  refine dwp_seq ?_
  refine dwp_hole ?_
  refine dwp_fam 1 rfl (by simp only [List.cons_append, List.nil_append, List.set_cons_zero, List.set_cons_succ]; exact rfl) ?_
  refine dwp_holes 2 (by simp only [holes, List.cons_append, List.nil_append]; exact rfl) ?_
  refine dwp_region ?_
  refine walk_r rfl rfl rfl (op_lddr rfl tb26 (ev1 rfl) rfl rfl) ?_
  refine walk_w rfl rfl rfl (dop_call [1] [] [2, 3] rfl (ev1 rfl) (ec (ev1 rfl) en) rfl rfl (chof_Q d.f d.h d.w d.dn d.fu (allF_at hd) (few_of hd)) rfl rfl rfl (by exact (wrc rfl (wrc rfl (wrc (by first | exact rfl | exact sb_arx (fun _ => rfl) | exact sb_arxr (nlL_flatR (fun _ => rfl) _) | exact sb_arxg (fun _ => rfl) | exact sb_arxs (fun _ => rfl)) rfl)))) rfl rfl) (by simp only [upd, List.set_cons_zero, List.set_cons_succ]; exact rfl) ?_
  refine walk_r rfl rfl rfl (op_move (.inr rfl) (ev1 rfl)) ?_
  refine walk_nil ?_
  refine dwp_seq ?_
  refine dwp_region ?_
  refine walk_r rfl rfl rfl (op_move (.inl rfl) (ev1 rfl)) ?_
  refine walk_r rfl rfl rfl (op_mkf rfl (ec (ev1 rfl) en) en) ?_
  refine walk_r rfl rfl rfl (op_move (.inr rfl) (ev1 rfl)) ?_
  refine walk_nil ?_
  refine dwp_seq ?_
  refine dwp_seq ?_
  refine dwp_region ?_
  refine walk_r rfl rfl rfl (op_move (.inl rfl) (ev1 rfl)) ?_
  refine walk_r rfl rfl rfl (op_lenm rfl sl24 (ev1 rfl)) ?_
  refine walk_r rfl rfl rfl (op_move (.inl rfl) (ev1 rfl)) ?_
  refine walk_nil ?_
  refine dwp_block ?_
  refine dwp_loopS ⟨hs0, rfl⟩ (α := Nat) (fun k => [(25, .val (.int .i64 (k : Int)))]) [(1, _), (4, _), (8, _), (9, _), (23, _), (24, _)] (fun k => [(1, .fam (XK d l k).1.B), (2, .mix 86 (cGm 1 (XK d l k).1.g (XK d l k).1.h (.arr 3) ((stK d l k).dn) ((stK d l k).fu))), (3, .arx 44 3 (XK d l k).2.length ((XK d l k).2.flatMap (oF 1)))]) [_, .hole, .hole, .hole] (fun k => k ≤ j) (fun k => l.length - k) 0 [0, 1, 2, 3] (by simp) rfl ⟨rfl, rfl, rfl, rfl, rfl, rfl, trivial⟩ ⟨rfl, trivial⟩ ⟨rfl, rfl, rfl, ox_fits (by rfl) rfl rfl, trivial⟩ ?_
  intro k hx
  simp only [upd, List.set_cons_zero, List.set_cons_succ, List.cons_append, List.nil_append]
  have hk := hx
  refine dwp_seq ?_
  refine dwp_region ?_
  refine walk_r rfl rfl rfl (op_lss rfl (ev1 rfl) (ev1 rfl)) ?_
  refine walk_nil ?_
  refine dwp_seq ?_
  refine dwp_cond rfl (fun c2 => ?_) (fun c2 => ?_)
  · try simp only [decide_eq_true_eq, decide_eq_false_iff_not, beq_iff_eq, bne_iff_ne, beq_eq_false_iff_ne, bne_eq_false_iff_eq, Bool.not_eq_true', Bool.not_eq_false', Bool.and_eq_true, Bool.or_eq_true, Bool.or_eq_false_iff, ne_eq, Decidable.not_not, Int.not_lt, Int.not_le] at c2
    refine dwp_skip ?_
    refine dwp_seq ?_
    refine dwp_block ?_
    refine dwp_seq ?_
    have hkl : k < l.length := by omega
    have hok0 : okK d l k := fun i hi hik => hok i hi (by omega)
    have hdk := stK_ok hd k (by omega) hok0
    have hxk := XK_ok hd k (by omega) hok0
    refine dwp_holes 1 (by simp only [holes, List.cons_append, List.nil_append]; exact rfl) ?_
    refine dwp_region ?_
    refine walk_r rfl rfl rfl (op_move (.inl rfl) (ev1 rfl)) ?_
    refine walk_r rfl rfl rfl (op_ixmr (k) (by decide) rfl sl24 (ev1 rfl) (ev1 rfl) (fun _ => rfl) (by omega) (fun _ => rfl)) ?_
    refine walk_r rfl rfl rfl (op_lddr rfl tb44 (ev1 rfl) rfl rfl) ?_
    refine walk_w rfl rfl rfl (op_alloc 4 rfl zr44 rfl) (by simp only [upd, List.set_cons_zero, List.set_cons_succ]; exact rfl) ?_
    refine walk_r rfl rfl rfl (op_move (.inr rfl) (ev1 rfl)) ?_
    refine walk_s rfl rfl (op_stam rfl tb44 (ev1 rfl) (ev1 rfl) rfl rfl rfl rfl) (by simp only [upd, List.set_cons_zero, List.set_cons_succ]; exact rfl) ?_
    refine walk_nil ?_
    refine dwp_seq ?_
    by_cases hkj : k = j
    · subst hkj
      refine dwp_region ?_
      refine walk_r rfl rfl rfl (op_move (.inl rfl) (ev1 rfl)) ?_
      refine walk_r rfl rfl rfl (op_ldmw rfl tb44 (ev1 rfl) rfl rfl) ?_
      refine walk_w rfl rfl rfl (dop_call [1, 2, 3] [] [] rfl (ev1 rfl) (ec (ev1 rfl) en) rfl (by exact mfits _ _ ⟨rfl, rfl, (by first | exact rfl | exact arx_fits rfl rfl (vwL_flat (fun _ => rfl) _) | exact arxr_fits rfl rfl (nlL_flatR (fun _ => rfl) _) | exact arxg_fits rfl rfl (fun _ => rfl) | exact arxs_fits rfl rfl (fun _ => rfl)), trivial⟩) (tryU_bad (XK d l k).1 (stK d l k) l[k] (XK d l k).2 hxk hdk h0 h9 (hlb _ (List.getElem_mem hkl))) rfl rfl rfl (by exact (wrc rfl (wrc rfl (wrc (by first | exact rfl | exact sb_arx (fun _ => rfl) | exact sb_arxr (nlL_flatR (fun _ => rfl) _) | exact sb_arxg (fun _ => rfl) | exact sb_arxs (fun _ => rfl)) rfl)))) rfl rfl) (by simp only [upd, List.set_cons_zero, List.set_cons_succ]; exact rfl) ?_
      refine walk_r rfl rfl rfl (op_move (.inr rfl) (ev1 rfl)) ?_
      refine walk_nil ?_
      refine dwp_seq ?_
      refine dwp_region ?_
      refine walk_r rfl rfl rfl (op_move (.inl rfl) (ev1 rfl)) ?_
      refine walk_nil ?_
      refine dwp_block ?_
      refine dwp_seq ?_
      refine dwp_region ?_
      refine walk_r rfl rfl rfl (op_eql rfl (ev1 rfl) (ev1 rfl)) ?_
      refine walk_r rfl rfl rfl (op_move (.inr rfl) (ev1 rfl)) ?_
      refine walk_nil ?_
      refine dwp_if_f rfl (by simp [h0]) ?_
      refine dwp_seq ?_
      refine dwp_region ?_
      refine walk_r rfl rfl rfl (op_eql rfl (ev1 rfl) (ev1 rfl)) ?_
      refine walk_r rfl rfl rfl (op_move (.inr rfl) (ev1 rfl)) ?_
      refine walk_nil ?_
      refine dwp_if_f rfl (by simp [h9]) ?_
      refine dwp_seq ?_
      refine dwp_region ?_
      refine walk_r rfl rfl rfl (op_build0 rfl fl26 zr26) ?_
      refine walk_r rfl rfl rfl (op_move (.inl rfl) (ev1 rfl)) ?_
      refine walk_r rfl rfl rfl (op_move (.inl rfl) (ev1 rfl)) ?_
      refine walk_s rfl rfl (op_stwa rfl tb26 (ev1 rfl) (ev1 rfl) rfl rfl rfl rfl) (by simp only [upd, List.set_cons_zero, List.set_cons_succ]; exact rfl) ?_
      refine walk_r rfl rfl rfl (op_move (.inr rfl) (ev1 rfl)) ?_
      refine walk_r rfl rfl rfl (op_move (.inr rfl) (ev1 rfl)) ?_
      refine walk_nil ?_
      refine dwp_ret ?_
      refine kend0 (rs3 rfl (rv_w tb26 rfl rfl rfl) (rv_t rfl) (rv_t rfl)) rfl ?_
      rfl
    · by_cases k4 : (l[k]'hkl).kd = 4
      · refine dwp_region ?_
        refine walk_r rfl rfl rfl (op_move (.inl rfl) (ev1 rfl)) ?_
        refine walk_r rfl rfl rfl (op_ldmw rfl tb44 (ev1 rfl) rfl rfl) ?_
        refine walk_w rfl rfl rfl (dop_call [1, 2, 3] [] [] rfl (ev1 rfl) (ec (ev1 rfl) en) rfl (by exact mfits _ _ ⟨rfl, rfl, (by first | exact rfl | exact arx_fits rfl rfl (vwL_flat (fun _ => rfl) _) | exact arxr_fits rfl rfl (nlL_flatR (fun _ => rfl) _) | exact arxg_fits rfl rfl (fun _ => rfl) | exact arxs_fits rfl rfl (fun _ => rfl)), trivial⟩) (tryU_4 (XK d l k).1 (stK d l k) l[k] (XK d l k).2 hxk hdk (hok k hkl (by omega)) k4) rfl rfl rfl (by exact (wrc rfl (wrc rfl (wrc (by first | exact rfl | exact sb_arx (fun _ => rfl) | exact sb_arxr (nlL_flatR (fun _ => rfl) _) | exact sb_arxg (fun _ => rfl) | exact sb_arxs (fun _ => rfl)) rfl)))) rfl rfl) (by simp only [upd, List.set_cons_zero, List.set_cons_succ]; exact rfl) ?_
        refine walk_r rfl rfl rfl (op_move (.inr rfl) (ev1 rfl)) ?_
        refine walk_nil ?_
        refine dwp_seq ?_
        refine dwp_region ?_
        refine walk_r rfl rfl rfl (op_move (.inl rfl) (ev1 rfl)) ?_
        refine walk_nil ?_
        refine dwp_block ?_
        refine dwp_seq ?_
        refine dwp_region ?_
        refine walk_r rfl rfl rfl (op_eql rfl (ev1 rfl) (ev1 rfl)) ?_
        refine walk_r rfl rfl rfl (op_move (.inr rfl) (ev1 rfl)) ?_
        refine walk_nil ?_
        refine dwp_if_t rfl (rfl) ?_
        refine dwp_skip ?_
        refine dwp_adoptc (l' := cGm 1 (stGs (XK d l k).1 (XK d l k).2).g (stGs (XK d l k).1 (XK d l k).2).h (.arr 5) (stK d l k).dn (fuB (stK d l k).fu)) 2 5 44 3 rfl rfl rfl rfl (by simp only [List.cons_append, List.nil_append, List.set_cons_zero, List.set_cons_succ]; exact rfl) ?_
        refine dwp_region ?_
        refine walk_r rfl rfl rfl (op_add' rfl (ev1 rfl) (ev1 rfl) (fun _ => IntWalk.i64_in _ (by omega))) ?_
        refine walk_r rfl rfl rfl (op_move (.inl rfl) (ev1 rfl)) ?_
        refine walk_nil ?_
        refine ⟨k + 1, [0, 1, 2, 5], by omega, by simp only []; omega, rfl, ⟨rfl, rfl, rfl, rfl, rfl, rfl, rfl, trivial⟩, ⟨rfl, congrArg (fun b => some (Blk.fam b)) (by rw [XK_succ hkl]; unfold stepX; rw [if_pos k4]), by rw [XK_succ hkl, stK_succ hkl]; unfold stepX okS; rw [if_pos k4, if_pos k4]; rfl, by rw [XK_succ hkl]; unfold stepX; rw [if_pos k4]; rfl, trivial⟩⟩
      · refine dwp_holes 1 (by simp only [holes, List.cons_append, List.nil_append]; exact rfl) ?_
        refine dwp_region ?_
        refine walk_r rfl rfl rfl (op_move (.inl rfl) (ev1 rfl)) ?_
        refine walk_r rfl rfl rfl (op_ldmw rfl tb44 (ev1 rfl) rfl rfl) ?_
        refine walk_w rfl rfl rfl (dop_call [1, 2, 3] [] [5] rfl (ev1 rfl) (ec (ev1 rfl) en) rfl (by exact mfits _ _ ⟨rfl, rfl, (by first | exact rfl | exact arx_fits rfl rfl (vwL_flat (fun _ => rfl) _) | exact arxr_fits rfl rfl (nlL_flatR (fun _ => rfl) _) | exact arxg_fits rfl rfl (fun _ => rfl) | exact arxs_fits rfl rfl (fun _ => rfl)), trivial⟩) (tryU_w (XK d l k).1 (stK d l k) l[k] (XK d l k).2 hxk hdk (hok k hkl (by omega)) k4 (hlb _ (List.getElem_mem hkl))) rfl rfl rfl (by exact (wrc rfl (wrc rfl (wrc rfl (wrc (by first | exact rfl | exact sb_arx (fun _ => rfl) | exact sb_arxr (nlL_flatR (fun _ => rfl) _) | exact sb_arxg (fun _ => rfl) | exact sb_arxs (fun _ => rfl)) rfl))))) rfl rfl) (by simp only [upd, List.set_cons_zero, List.set_cons_succ]; exact rfl) ?_
        refine walk_r rfl rfl rfl (op_move (.inr rfl) (ev1 rfl)) ?_
        refine walk_nil ?_
        refine dwp_seq ?_
        refine dwp_region ?_
        refine walk_r rfl rfl rfl (op_move (.inl rfl) (ev1 rfl)) ?_
        refine walk_nil ?_
        refine dwp_block ?_
        refine dwp_seq ?_
        refine dwp_region ?_
        refine walk_r rfl rfl rfl (op_eql rfl (ev1 rfl) (ev1 rfl)) ?_
        refine walk_r rfl rfl rfl (op_move (.inr rfl) (ev1 rfl)) ?_
        refine walk_nil ?_
        refine dwp_if_t rfl (rfl) ?_
        refine dwp_skip ?_
        refine dwp_region ?_
        refine walk_r rfl rfl rfl (op_add' rfl (ev1 rfl) (ev1 rfl) (fun _ => IntWalk.i64_in _ (by omega))) ?_
        refine walk_r rfl rfl rfl (op_move (.inl rfl) (ev1 rfl)) ?_
        refine walk_nil ?_
        refine ⟨k + 1, [0, 1, 2, 5], by omega, by simp only []; omega, rfl, ⟨rfl, rfl, rfl, rfl, rfl, rfl, rfl, trivial⟩, ⟨rfl, congrArg (fun b => some (Blk.fam b)) (by rw [XK_succ hkl]; unfold stepX; rw [if_neg k4]), by rw [XK_succ hkl, stK_succ hkl]; unfold stepX okS; rw [if_neg k4, if_neg k4]; rfl, ox_fits (by rw [XK_succ hkl]; unfold stepX; rw [if_neg k4]; simp) (by rw [XK_succ hkl]; unfold stepX; rw [if_neg k4]) rfl, trivial⟩⟩
  · exact absurd (show (k : Int) < (l.length : Int) by omega) (of_decide_eq_false c2)
end Go.Proofs.Ytjecmkaggobcjaa

namespace Go.Proofs.Ytjecmkaggobcjaa
set_option linter.unusedVariables false
set_option linter.unusedSimpArgs false
open Go.RowKit
/-- what reads as d reads as d', too -/
def Wk (d d' : D) : Prop := ∀ s v, Rep s d v → Rep s d' v
def WkL (l l' : List D) : Prop := l.length = l'.length ∧ ∀ (j : Nat) d d', l[j]? = some d → l'[j]? = some d' → Wk d d'
theorem Wk.refl (d : D) : Wk d d := fun _ _ h => h
theorem WkL.nil : WkL [] [] := ⟨rfl, fun j d d' h => by simp at h⟩
theorem WkL.cons {d d' : D} {l l' : List D} (h : Wk d d') (hl : WkL l l') : WkL (d :: l) (d' :: l') := by
  refine ⟨by simp [hl.1], fun j e e' h1 h2 => ?_⟩
  cases j with
  | zero => simp at h1 h2; subst h1 h2; exact h
  | succ j => exact hl.2 j e e' (by simpa using h1) (by simpa using h2)
theorem WkL.refl (l : List D) : WkL l l := ⟨rfl, fun j d d' h1 h2 => by rw [h1] at h2; cases h2; exact Wk.refl d⟩
theorem WkL.rep {s : St} {l l' : List D} {vs : List Value} (h : WkL l l') (hr : ∀ (j : Nat) d v, l[j]? = some d → vs[j]? = some v → Rep s d v) : ∀ (j : Nat) d v, l'[j]? = some d → vs[j]? = some v → Rep s d v := fun j d v h1 h2 => by
  have hj : j < l.length := by rw [h.1]; exact (List.getElem?_eq_some_iff.1 h1).1
  exact h.2 j l[j] d (List.getElem?_eq_getElem hj) h1 s v (hr j _ v (List.getElem?_eq_getElem hj) h2)
theorem Wk.tup {l l' : List D} (h : WkL l l') : Wk (.tup l) (.tup l') := fun s v hr => by
  cases hr with
  | tup hl hr => exact .tup (hl.trans h.1) (h.rep hr)
theorem Wk.agg {l l' : List D} (h : WkL l l') : Wk (.agg l) (.agg l') := fun s v hr => by
  cases hr with
  | agg hl hr => exact .agg (hl.trans h.1) (h.rep hr)
theorem Wk.slm0 (sz : Nat) : Wk (.val (.slice none 0 0)) (.slm sz 0 []) := fun s v hr => by
  cases hr with
  | val => exact .slm (vs := []) rfl (by simp) (Nat.le_refl _) (Nat.zero_le _) (fun _ => rfl) rfl (fun j d v h => by simp at h) (.inl rfl)
theorem Wk.slf0 (sz : Nat) : Wk (.val (.slice none 0 0)) (.slf sz 0 []) := fun s v hr => by
  cases hr with
  | val => exact .slf (by simp) (Nat.le_refl _) (Nat.zero_le _) (fun _ => rfl) (.inl rfl)
theorem Wk.vagg (l : List Value) : Wk (.val (.agg l.toArray)) (.agg (l.map D.val)) := fun s v hr => by
  cases hr with
  | val =>
    refine .agg (by simp) fun j d v h1 h2 => ?_
    rw [List.getElem?_map, h2] at h1
    cases h1
    exact .val v
theorem Wk.trans {d d' d'' : D} (h : Wk d d') (k : Wk d' d'') : Wk d d'' := fun s v hr => k s v (h s v hr)
/-- .. of what an operation hands back -/
theorem DOp.wk {P : Program} {pc : Bool} {o : Oper} {F : Fr} {M : List Blk} {fp : List Nat} {d d' : D} {wr : List (Nat × Blk)} (h : DOp P pc o F M fp d wr) (hw : Wk d d') : DOp P pc o F M fp d' wr := by
  intro hp a s hok hops hfp
  exact (h hp a s hok hops hfp).map fun s' v ho' ⟨e1, e2⟩ => ⟨s', rfl, Tr.refl ho', e1, hw s' v e2⟩
/-- .. of an operand -/
theorem evwk {pc : Bool} {F : Fr} {x : Operand} {d d' : D} (h : Ev pc F x d) (hw : Wk d d') : Ev pc F x d' := by
  obtain ⟨d0, e1, e2⟩ := h
  exact ⟨d0, e1, fun s v hp hr => hw _ _ (e2 s v hp hr)⟩
section
variable {P : Program} {s0 : St} {n : Cx}
end
/-- a pair's parts, looked at -/
theorem vw_two {σ : List Nat} {V : Nat → Bool} {M : List Blk} {a a' : D} {b : Value} (h : vw σ V M a = some a') : vw σ V M (.tup [a, .val b]) = some (.tup [a', .val b]) := by
  unfold vw; unfold vwL; rw [h]; rfl
theorem vw_three {σ : List Nat} {V : Nat → Bool} {M : List Blk} {a a' : D} {b c : Value} (h : vw σ V M a = some a') : vw σ V M (.tup [a, .val b, .val c]) = some (.tup [a', .val b, .val c]) := by
  unfold vw; unfold vwL; rw [h]; rfl
/-- a field of a struct: where it is, whether it has parts, how many cells -/
def fdP (P : Program) (T : TypeId) (f : Nat) : Option (Nat × Bool × Nat) := match P.underlying T with
  | some (.struct fs) => (fs[f]?).bind fun d => (tyB P d.type).map fun bk => (d.offset, bk.1, bk.2)
  | _ => none
theorem fdP_spec {P : Program} {T : TypeId} {f q k : Nat} {b : Bool} (h : fdP P T f = some (q, b, k)) : ∃ (fs : Array Field) (d : Field), P.underlying T = some (.struct fs) ∧ fs[f]? = some d ∧ d.offset = q ∧ tyB P d.type = some (b, k) := by
  unfold fdP at h
  split at h
  · rename_i fs hu
    rw [Option.bind_eq_some_iff] at h
    obtain ⟨d, hd, h2⟩ := h
    rw [Option.map_eq_some_iff] at h2
    obtain ⟨⟨b', k'⟩, h3, h4⟩ := h2
    simp only [Prod.mk.injEq] at h4
    obtain ⟨e1, e2, e3⟩ := h4
    subst e1 e2 e3
    exact ⟨fs, d, hu, hd, rfl, h3⟩
  · cases h
section
variable {P : Program} {pc : Bool} {o : Oper} {F : Fr} {M : List Blk} {T : TypeId} {x : Operand}
theorem op_fdr {f q k : Nat} {ds : List D} (ho : o.op = .field T x f) (hT : fdP P T f = some (q, true, k)) (hx : Ev pc F x (.agg ds)) (hl : q + k ≤ ds.length) : DOp P pc o F M [] (.agg ((ds.drop q).take k)) [] := by
  intro hp a s hok hops _
  have hr := ev_at hp hx (by simp [ho, Op.operands]) hops
  obtain ⟨fs, fd, hu, hf, hoff, he⟩ := fdP_spec hT
  obtain ⟨dd, i, h1, h2, h3, h4⟩ := tyB_spec he
  generalize hv : a.eval x = vx at hr
  cases hr with
  | @agg _ vs hvl hel =>
    refine dg_val (v := .agg ((vs.drop q).take k).toArray) hok ?_ (.agg (by simp [hvl]) fun j d v g1 g2 => ?_)
    · unfold execOp
      simp only [ho, hv]
      refine run_v ?_
      have hagg : (isAgg fd.type).run P s.w = .ok true s.w := by
        unfold isAgg
        rw [Sem.run_bind, run_underlying h1]
        cases dd <;> first | rfl | cases h3
      have hsz : (sizeOf fd.type).run P s.w = .ok k s.w := by simp [sizeOf, typeInfo, h2, h4]
      unfold Instr.field
      simp only [Sem.run_bind, Result.andThen_ok, run_underlying hu, hf, asAgg, Sem.run_pure, part, hagg, hoff, hsz, if_true]
      simp only [List.extract_toArray, List.extract_eq_take_drop, Nat.add_sub_cancel_left]
    · have hj : j < k := by
        have := (List.getElem?_eq_some_iff.1 g1).1
        rw [List.length_take] at this
        omega
      rw [List.getElem?_take_of_lt hj, List.getElem?_drop] at g1 g2
      exact hel _ d v g1 g2
end
end Go.Proofs.Ytjecmkaggobcjaa

namespace Go.Proofs.Ytjecmkaggobcjaa
theorem zr82 : zrC Try.prog 82 = some [.pointer none] := by kernel_rfl
end Go.Proofs.Ytjecmkaggobcjaa

namespace Go.Proofs.Ytjecmkaggobcjaa
set_option linter.unusedVariables false
set_option linter.unusedSimpArgs false
open Go.RowKit
set_option maxRecDepth 4000 in
set_option maxHeartbeats 1000000 in
theorem fall_no (d : DkS) (hb : fewB (szs d.f) d.w) (hc : ¬ d.ok) (a b : Int) : DFun Try.prog 31 [.agg (dD d.f d.h d.w d.dn d.fu), .val (.int .i64 (a)), .val (.int .i64 (b))] [] (.tup [.val (.agg #[.slice none 0 0, .slice none 0 0, .slice none 0 0, .slice none 0 0, .int .i64 0, .slice none 0 0, .bool false, .int .i64 0]), .val (.int .i64 320)]) [] := by
  refine dcalls_body (N := 55) 0 (by kernel_rfl) Try.func31 rfl rfl rfl (by simp only [fr0, Nat.zero_add, Nat.reduceAdd]; exact rfl) rfl fun s0 hs0 => ?_
  refine dbody_seq rfl hs0 ?_
  refine dwp_holes 4 (by simp only [holes, List.cons_append, List.nil_append]; exact rfl) ?_
  refine dwp_region ?_
  refine walk_r rfl rfl rfl (op_boxf rfl rfl (ev1 rfl)) ?_
  refine walk_w rfl rfl rfl (op_boxi 0 rfl (ev1 rfl) rfl) (by simp only [upd, List.set_cons_zero, List.set_cons_succ]; exact rfl) ?_
  refine walk_w rfl rfl rfl (op_boxi 1 rfl (ev1 rfl) rfl) (by simp only [upd, List.set_cons_zero, List.set_cons_succ]; exact rfl) ?_
  refine walk_w rfl rfl rfl (op_alloc 2 rfl zr26 rfl) (by simp only [upd, List.set_cons_zero, List.set_cons_succ]; exact rfl) ?_
  refine walk_w rfl rfl rfl (op_alloc 3 rfl zr31 rfl) (by simp only [upd, List.set_cons_zero, List.set_cons_succ]; exact rfl) ?_
  refine walk_nil ?_
  refine dbody_scope (m := 0) ?_
  refine dbody_defer (l0 := [_]) rfl rfl rfl rfl rfl hs0 ?_
  refine walk_r rfl rfl rfl (op_mkf rfl en (ec (ev1 rfl) en)) ?_
  refine walk_nil ⟨_, _, _, 4, ev1 rfl, Nat.le_trans hs0 (by decide), rfl, ?_⟩
  have hs1 : s0.M.length ≤ 4 := Nat.le_trans hs0 (by decide)
  refine dbody_end rfl hs0 ?_
  refine dwp_seq ?_
  refine dwp_region ?_
  refine walk_r rfl rfl rfl (op_lddr rfl tb26 (ev1 rfl) rfl rfl) ?_
  refine walk_r rfl rfl rfl (dop_call [] [] [] rfl (ev1 rfl) (ec (ev1 rfl) en) rfl rfl (check_d d.f d.h d.w d.dn d.fu hb) rfl rfl rfl rfl rfl rfl) ?_
  refine walk_r rfl rfl rfl (op_eql rfl (ev1 rfl) (ev1 rfl)) ?_
  refine walk_p rfl (dop_callP [] [] [] rfl (ev1 rfl) (ec (ev1 rfl) (ec (ev1 rfl) en)) rfl rfl (need_no _ _ (by rw [if_neg (show ¬ chkB d.f d.h d.w d.dn d.fu = true from hc)]; rfl)) rfl rfl rfl rfl rfl rfl) rfl ?_
  refine kdef (dturn_caught [3] [] rfl rfl rfl (fallf_caught _ _) rfl rfl rfl rfl rfl) ?_
  refine kend0 (rs2 rfl (rv_w tb26 rfl rfl rfl) (rv_1 tb31 rfl rfl rfl)) rfl ?_
  rfl
set_option maxRecDepth 4000 in
set_option maxHeartbeats 1000000 in
theorem fall_arg (d : DkS) (hd : d.ok) (a b : Int) (hn : ¬ (0 ≤ a ∧ 0 ≤ b)) : DFun Try.prog 31 [.agg (dD d.f d.h d.w d.dn d.fu), .val (.int .i64 (a)), .val (.int .i64 (b))] [] (.tup [.val (.agg #[.slice none 0 0, .slice none 0 0, .slice none 0 0, .slice none 0 0, .int .i64 0, .slice none 0 0, .bool false, .int .i64 0]), .val (.int .i64 2)]) [] := by
  refine dcalls_body (N := 55) 0 (by kernel_rfl) Try.func31 rfl rfl rfl (by simp only [fr0, Nat.zero_add, Nat.reduceAdd]; exact rfl) rfl fun s0 hs0 => ?_
  refine dbody_seq rfl hs0 ?_
  refine dwp_holes 4 (by simp only [holes, List.cons_append, List.nil_append]; exact rfl) ?_
  refine dwp_region ?_
  refine walk_r rfl rfl rfl (op_boxf rfl rfl (ev1 rfl)) ?_
  refine walk_w rfl rfl rfl (op_boxi 0 rfl (ev1 rfl) rfl) (by simp only [upd, List.set_cons_zero, List.set_cons_succ]; exact rfl) ?_
  refine walk_w rfl rfl rfl (op_boxi 1 rfl (ev1 rfl) rfl) (by simp only [upd, List.set_cons_zero, List.set_cons_succ]; exact rfl) ?_
  refine walk_w rfl rfl rfl (op_alloc 2 rfl zr26 rfl) (by simp only [upd, List.set_cons_zero, List.set_cons_succ]; exact rfl) ?_
  refine walk_w rfl rfl rfl (op_alloc 3 rfl zr31 rfl) (by simp only [upd, List.set_cons_zero, List.set_cons_succ]; exact rfl) ?_
  refine walk_nil ?_
  refine dbody_scope (m := 0) ?_
  refine dbody_defer (l0 := [_]) rfl rfl rfl rfl rfl hs0 ?_
  refine walk_r rfl rfl rfl (op_mkf rfl en (ec (ev1 rfl) en)) ?_
  refine walk_nil ⟨_, _, _, 4, ev1 rfl, Nat.le_trans hs0 (by decide), rfl, ?_⟩
  have hs1 : s0.M.length ≤ 4 := Nat.le_trans hs0 (by decide)
  refine dbody_end rfl hs0 ?_
  refine dwp_seq ?_
  refine dwp_region ?_
  refine walk_r rfl rfl rfl (op_lddr rfl tb26 (ev1 rfl) rfl rfl) ?_
  refine walk_r rfl rfl rfl (dop_call [] [] [] rfl (ev1 rfl) (ec (ev1 rfl) en) rfl rfl (check_d d.f d.h d.w d.dn d.fu (few_of hd)) rfl rfl rfl rfl rfl rfl) ?_
  refine walk_r rfl rfl rfl (op_eql rfl (ev1 rfl) (ev1 rfl)) ?_
  refine walk_r rfl rfl rfl (dop_call [] [] [] rfl (ev1 rfl) (ec (ev1 rfl) (ec (ev1 rfl) en)) rfl rfl (need_ok _ _ (by rw [if_pos (show chkB d.f d.h d.w d.dn d.fu = true from hd)]; rfl)) rfl rfl rfl rfl rfl rfl) ?_
  refine walk_nil ?_
  refine dwp_seq ?_
  refine dwp_region ?_
  refine walk_r rfl rfl rfl (op_ldo rfl tb3 (ev1 rfl) rfl rfl) ?_
  refine walk_r rfl rfl rfl (op_geq rfl (ev1 rfl) (ev1 rfl)) ?_
  refine walk_r rfl rfl rfl (op_move (.inl rfl) (ev1 rfl)) ?_
  refine walk_gr (gd_t rfl rfl rfl) rfl rfl rfl (op_ldo rfl tb3 (ev1 rfl) rfl rfl) ?_
  refine walk_gr (gd_t rfl rfl rfl) rfl rfl rfl (op_geq rfl (ev2 rfl) (ev1 rfl)) ?_
  refine walk_r rfl rfl rfl (op_and rfl (ev1 rfl) (ev3 rfl id)) ?_
  refine walk_p rfl (dop_callP [] [] [] rfl (ev1 rfl) (ec (ev1 rfl) (ec (ev1 rfl) en)) rfl rfl (need_no _ _ (by by_cases h1 : 0 ≤ a <;> by_cases h2 : 0 ≤ b <;> simp [h1, h2] <;> exact hn ⟨h1, h2⟩)) rfl rfl rfl rfl rfl rfl) rfl ?_
  refine kdef (dturn_caught [3] [] rfl rfl rfl (fallf_caught _ _) rfl rfl rfl rfl rfl) ?_
  refine kend0 (rs2 rfl (rv_w tb26 rfl rfl rfl) (rv_1 tb31 rfl rfl rfl)) rfl ?_
  rfl
set_option maxRecDepth 4000 in
set_option maxHeartbeats 1000000 in
theorem fall_go (d : DkS) (hd : d.ok) (keep t : Nat) (hkp : d.w.length ≤ keep) : DFun Try.prog 31 [.agg (dD d.f d.h d.w d.dn d.fu), .val (.int .i64 (keep : Int)), .val (.int .i64 (t : Int))] [] (.tup [.agg (cG (stGs (X0 d).1 (X0 d).2).g (stGs (X0 d).1 (X0 d).2).h (.val (.slice none 0 0)) true 0), .val (.int .i64 0)]) [.fam (stGs (X0 d).1 (X0 d).2).B] := by
  refine dcalls_body (N := 55) 0 (by kernel_rfl) Try.func31 rfl rfl rfl (by simp only [fr0, Nat.zero_add, Nat.reduceAdd]; exact rfl) rfl fun s0 hs0 => ?_
  refine dbody_seq rfl hs0 ?_
  refine dwp_holes 4 (by simp only [holes, List.cons_append, List.nil_append]; exact rfl) ?_
  refine dwp_region ?_
  refine walk_r rfl rfl rfl (op_boxf rfl rfl (ev1 rfl)) ?_
  refine walk_w rfl rfl rfl (op_boxi 0 rfl (ev1 rfl) rfl) (by simp only [upd, List.set_cons_zero, List.set_cons_succ]; exact rfl) ?_
  refine walk_w rfl rfl rfl (op_boxi 1 rfl (ev1 rfl) rfl) (by simp only [upd, List.set_cons_zero, List.set_cons_succ]; exact rfl) ?_
  refine walk_w rfl rfl rfl (op_alloc 2 rfl zr26 rfl) (by simp only [upd, List.set_cons_zero, List.set_cons_succ]; exact rfl) ?_
  refine walk_w rfl rfl rfl (op_alloc 3 rfl zr31 rfl) (by simp only [upd, List.set_cons_zero, List.set_cons_succ]; exact rfl) ?_
  refine walk_nil ?_
  refine dbody_scope (m := 0) ?_
  refine dbody_defer (l0 := [_]) rfl rfl rfl rfl rfl hs0 ?_
  refine walk_r rfl rfl rfl (op_mkf rfl en (ec (ev1 rfl) en)) ?_
  refine walk_nil ⟨_, _, _, 4, ev1 rfl, Nat.le_trans hs0 (by decide), rfl, ?_⟩
  have hs1 : s0.M.length ≤ 4 := Nat.le_trans hs0 (by decide)
  refine dbody_end rfl hs0 ?_
  refine dwp_seq ?_
  refine dwp_region ?_
  refine walk_r rfl rfl rfl (op_lddr rfl tb26 (ev1 rfl) rfl rfl) ?_
  refine walk_r rfl rfl rfl (dop_call [] [] [] rfl (ev1 rfl) (ec (ev1 rfl) en) rfl rfl (check_d d.f d.h d.w d.dn d.fu (few_of hd)) rfl rfl rfl rfl rfl rfl) ?_
  refine walk_r rfl rfl rfl (op_eql rfl (ev1 rfl) (ev1 rfl)) ?_
  refine walk_r rfl rfl rfl (dop_call [] [] [] rfl (ev1 rfl) (ec (ev1 rfl) (ec (ev1 rfl) en)) rfl rfl (need_ok _ _ (by rw [if_pos (show chkB d.f d.h d.w d.dn d.fu = true from hd)]; rfl)) rfl rfl rfl rfl rfl rfl) ?_
  refine walk_nil ?_
  refine dwp_seq ?_
  refine dwp_region ?_
  refine walk_r rfl rfl rfl (op_ldo rfl tb3 (ev1 rfl) rfl rfl) ?_
  refine walk_r rfl rfl rfl (op_geq rfl (ev1 rfl) (ev1 rfl)) ?_
  refine walk_r rfl rfl rfl (op_move (.inl rfl) (ev1 rfl)) ?_
  refine walk_gr (gd_t rfl rfl rfl) rfl rfl rfl (op_ldo rfl tb3 (ev1 rfl) rfl rfl) ?_
  refine walk_gr (gd_t rfl rfl rfl) rfl rfl rfl (op_geq rfl (ev2 rfl) (ev1 rfl)) ?_
  refine walk_r rfl rfl rfl (op_and rfl (ev1 rfl) (ev3 rfl id)) ?_
  refine walk_r rfl rfl rfl (dop_call [] [] [] rfl (ev1 rfl) (ec (ev1 rfl) (ec (ev1 rfl) en)) rfl rfl (need_ok _ _ (by simp)) rfl rfl rfl rfl rfl rfl) ?_
  refine walk_nil ?_
  refine dwp_seq ?_
  refine dwp_hole ?_
  refine dwp_fam 4 rfl (by simp only [List.cons_append, List.nil_append, List.set_cons_zero, List.set_cons_succ]; exact rfl) ?_
  refine dwp_holes 3 (by simp only [holes, List.cons_append, List.nil_append]; exact rfl) ?_
  refine dwp_region ?_
  refine walk_r rfl rfl rfl (op_lddr rfl tb26 (ev1 rfl) rfl rfl) ?_
  refine walk_w rfl rfl rfl (dop_call [4] [] [5, 6] rfl (ev1 rfl) (ec (ev1 rfl) en) rfl rfl (chof_Q d.f d.h d.w d.dn d.fu (allF_at hd) (few_of hd)) rfl rfl rfl (by exact (wrc rfl (wrc rfl (wrc (by first | exact rfl | exact sb_arx (fun _ => rfl) | exact sb_arxr (nlL_flatR (fun _ => rfl) _) | exact sb_arxg (fun _ => rfl) | exact sb_arxs (fun _ => rfl)) rfl)))) rfl rfl) (by simp only [upd, List.set_cons_zero, List.set_cons_succ]; exact rfl) ?_
  refine walk_w rfl rfl rfl (op_alloc 7 rfl zr82 rfl) (by simp only [upd, List.set_cons_zero, List.set_cons_succ]; exact rfl) ?_
  refine walk_s rfl rfl (op_stfm rfl tb82 (ev1 rfl) (ev1 rfl) (fun s v h => by cases h <;> exact ⟨rfl, rfl⟩) rfl (by decide)) (by simp only [upd, List.set_cons_zero, List.set_cons_succ]; exact rfl) ?_
  refine walk_nil ?_
  refine dwp_seq ?_
  refine dwp_label ?_
  refine dwp_seq ?_
  refine dwp_seq ?_
  refine dwp_holes 1 (by simp only [holes, List.cons_append, List.nil_append]; exact rfl) ?_
  refine dwp_region ?_
  refine walk_r rfl rfl rfl (op_ldm rfl tb82 (ev1 rfl) rfl rfl) ?_
  refine walk_w rfl rfl rfl (dop_call [4, 5, 6] [] [8] rfl (ev1 rfl) (ec (ev1 rfl) en) rfl (by exact mfits _ _ ⟨rfl, rfl, (by first | exact rfl | exact arx_fits rfl rfl (vwL_flat (fun _ => rfl) _) | exact arxr_fits rfl rfl (nlL_flatR (fun _ => rfl) _) | exact arxg_fits rfl rfl (fun _ => rfl) | exact arxs_fits rfl rfl (fun _ => rfl)), trivial⟩) (waiting_d (X0 d).1 d.dn d.fu (X0 d).2) rfl rfl rfl (by exact (wrc rfl (wrc rfl (wrc (by first | exact rfl | exact sb_arx (fun _ => rfl) | exact sb_arxr (nlL_flatR (fun _ => rfl) _) | exact sb_arxg (fun _ => rfl) | exact sb_arxs (fun _ => rfl)) (wrc rfl rfl))))) rfl rfl) (by simp only [upd, List.set_cons_zero, List.set_cons_succ]; exact rfl) ?_
  refine walk_nil ?_
  refine dwp_block ?_
  refine dwp_hole ?_
  simp only [List.cons_append, List.nil_append]
  refine dwp_rf (FL := [(4, _), (5, _), (8, _)]) (st := .ready) (pe := none) [9, 7, 4, 5, 6, 0, 1, 8] [] [] 9 rfl rfl (ev1 rfl) rfl (subF_lk ⟨rfl, rfl, rfl, trivial⟩) rfl rfl (by exact mfits _ _ ⟨rfl, rfl, rfl, rfl, (by first | exact rfl | exact arx_fits rfl rfl (vwL_flat (fun _ => rfl) _) | exact arxg_fits rfl rfl (fun _ => rfl) | exact arxs_fits rfl rfl (fun _ => rfl)), rfl, rfl, rfl, trivial⟩) (waitF_go (X0 d).1 d.dn d.fu (X0 d).2 keep t (X0_ok d).g ((X0_ok d).may hd) (by have := (chk0_parts (chk_parts hd).1).2.2.2; have h2 : (X0 d).2.length = d.w.length := (X0_ok d).len; omega) (stGs_bd ((X0_ok d).may hd) ((X0_ok d).few hd)) (by have h2 : (X0 d).2.length = d.w.length := (X0_ok d).len; omega)) rfl rfl rfl (by exact (wrc rfl (wrc rfl (wrc rfl (wrc rfl (wrc (by first | exact rfl | exact sb_arx (fun _ => rfl) | exact sb_arxr (nlL_flatR (fun _ => rfl) _) | exact sb_arxg (fun _ => rfl) | exact sb_arxs (fun _ => rfl)) (wrc rfl (wrc rfl (wrc rfl rfl))))))))) rfl rfl rfl (by simp) (fun e => ?_) (fun c e => ?_)
  · simp only [upd, List.set_cons_zero, List.set_cons_succ]
    refine dwp_seq ?_
    refine dwp_draw [([7], []), ([7], []), ([7], []), ([], []), ([], []), ([], []), ([5], [5]), ([], []), ([], []), ([], []), ([5], [5]), ([], []), ([], []), ([], []), ([5], [5])] mixed (by kernel_rfl) ?_
    refine lex_r rfl rfl (op_ldm rfl tb82 (ev1 rfl) rfl rfl) ?_
    refine lex_r rfl rfl (op_ldm rfl tb82 (ev1 rfl) rfl rfl) ?_
    refine lex_r rfl rfl (op_ldm rfl tb82 (ev1 rfl) rfl rfl) ?_
    refine lex_r rfl rfl (op_nc rfl (ev1 rfl) (fun s v h => by cases h; exact ⟨_, rfl⟩)) ?_
    refine lex_r rfl rfl (op_fa rfl fo86_0 (ev1 rfl)) ?_
    refine lex_r rfl rfl (op_fa rfl fo26_3 (ev1 rfl)) ?_
    refine lex_s rfl rfl (op_stm rfl tb4 (ev1 rfl) (ev1 rfl) (fun s v h => by cases h <;> exact ⟨rfl, rfl⟩) rfl (by first | decide | exact Nat.le_of_ble_eq_true rfl | simp)) rfl (by simp only [upd, List.set_cons_zero, List.set_cons_succ]; exact rfl) ?_
    refine lex_r rfl rfl (op_nc rfl (ev1 rfl) (fun s v h => by cases h; exact ⟨_, rfl⟩)) ?_
    refine lex_r rfl rfl (op_fa rfl fo86_0 (ev1 rfl)) ?_
    refine lex_r rfl rfl (op_fa rfl fo26_4 (ev1 rfl)) ?_
    refine lex_s rfl rfl (op_stm rfl tb3 (ev1 rfl) (ev1 rfl) (fun s v h => by cases h <;> exact ⟨rfl, rfl⟩) rfl (by first | decide | exact Nat.le_of_ble_eq_true rfl | simp)) rfl (by simp only [upd, List.set_cons_zero, List.set_cons_succ]; exact rfl) ?_
    refine lex_r rfl rfl (op_nc rfl (ev1 rfl) (fun s v h => by cases h; exact ⟨_, rfl⟩)) ?_
    refine lex_r rfl rfl (op_fa rfl fo86_0 (ev1 rfl)) ?_
    refine lex_r rfl rfl (op_fa rfl fo26_2 (ev1 rfl)) ?_
    refine lex_s rfl rfl (op_stm rfl tb24 (ev1 rfl) (ev1 rfl) (fun s v h => by cases h <;> exact ⟨rfl, rfl⟩) rfl (by first | decide | exact Nat.le_of_ble_eq_true rfl | simp)) rfl (by simp only [upd, List.set_cons_zero, List.set_cons_succ]; exact rfl) ?_
    refine lex_nil ?_
    refine dwp_seq ?_
    refine dwp_region ?_
    refine walk_r rfl rfl rfl (op_ldm rfl tb82 (ev1 rfl) rfl rfl) ?_
    refine walk_r rfl rfl rfl (op_nc rfl (ev1 rfl) (fun s v h => by cases h; exact ⟨_, rfl⟩)) ?_
    refine walk_r rfl rfl rfl (op_fa rfl fo86_0 (ev1 rfl)) ?_
    refine walk_r rfl rfl rfl (op_ldmw rfl tb26 (ev1 rfl) rfl rfl) ?_
    refine walk_s rfl rfl (op_stam rfl tb26 (ev1 rfl) (ev1 rfl) rfl rfl rfl rfl) (by simp only [upd, List.set_cons_zero, List.set_cons_succ]; exact rfl) ?_
    refine walk_s rfl rfl (op_stwi rfl tb31 (ev1 rfl) (ev1 rfl) rfl) (by simp only [upd, List.set_cons_zero, List.set_cons_succ]; exact rfl) ?_
    refine walk_nil ?_
    refine dwp_ret ?_
    refine kdef (dturn_idle [3] [] rfl rfl (fallf_idle _) rfl rfl rfl rfl rfl) ?_
    refine kend [4] (rs2 rfl (rv_mw tb26 rfl rfl rfl) (rv_1 tb31 rfl rfl rfl)) rfl rfl ?_ ⟨?_, trivial⟩
    rfl
    all_goals exact rfl
  · cases e
set_option maxRecDepth 4000 in
set_option maxHeartbeats 1000000 in
theorem fall_stop (d : DkS) (hd : d.ok) (keep t : Nat) (hkp : keep < d.w.length) (hq : keep < (X0 d).2.length) : DFun Try.prog 31 [.agg (dD d.f d.h d.w d.dn d.fu), .val (.int .i64 (keep : Int)), .val (.int .i64 (t : Int))] [] (.tup [.agg (cG (tearS (stGs (X0 d).1 ((X0 d).2.take keep)) ((X0 d).2[keep]'hq).1 ((X0 d).2[keep]'hq).2 t).g (tearS (stGs (X0 d).1 ((X0 d).2.take keep)) ((X0 d).2[keep]'hq).1 ((X0 d).2[keep]'hq).2 t).h (.val (.slice none 0 0)) true 0), .val (.int .i64 0)]) [.fam (tearS (stGs (X0 d).1 ((X0 d).2.take keep)) ((X0 d).2[keep]'hq).1 ((X0 d).2[keep]'hq).2 t).B] := by
  refine dcalls_body (N := 55) 0 (by kernel_rfl) Try.func31 rfl rfl rfl (by simp only [fr0, Nat.zero_add, Nat.reduceAdd]; exact rfl) rfl fun s0 hs0 => ?_
  refine dbody_seq rfl hs0 ?_
  refine dwp_holes 4 (by simp only [holes, List.cons_append, List.nil_append]; exact rfl) ?_
  refine dwp_region ?_
  refine walk_r rfl rfl rfl (op_boxf rfl rfl (ev1 rfl)) ?_
  refine walk_w rfl rfl rfl (op_boxi 0 rfl (ev1 rfl) rfl) (by simp only [upd, List.set_cons_zero, List.set_cons_succ]; exact rfl) ?_
  refine walk_w rfl rfl rfl (op_boxi 1 rfl (ev1 rfl) rfl) (by simp only [upd, List.set_cons_zero, List.set_cons_succ]; exact rfl) ?_
  refine walk_w rfl rfl rfl (op_alloc 2 rfl zr26 rfl) (by simp only [upd, List.set_cons_zero, List.set_cons_succ]; exact rfl) ?_
  refine walk_w rfl rfl rfl (op_alloc 3 rfl zr31 rfl) (by simp only [upd, List.set_cons_zero, List.set_cons_succ]; exact rfl) ?_
  refine walk_nil ?_
  refine dbody_scope (m := 0) ?_
  refine dbody_defer (l0 := [_]) rfl rfl rfl rfl rfl hs0 ?_
  refine walk_r rfl rfl rfl (op_mkf rfl en (ec (ev1 rfl) en)) ?_
  refine walk_nil ⟨_, _, _, 4, ev1 rfl, Nat.le_trans hs0 (by decide), rfl, ?_⟩
  have hs1 : s0.M.length ≤ 4 := Nat.le_trans hs0 (by decide)
  refine dbody_end rfl hs0 ?_
  refine dwp_seq ?_
  refine dwp_region ?_
  refine walk_r rfl rfl rfl (op_lddr rfl tb26 (ev1 rfl) rfl rfl) ?_
  refine walk_r rfl rfl rfl (dop_call [] [] [] rfl (ev1 rfl) (ec (ev1 rfl) en) rfl rfl (check_d d.f d.h d.w d.dn d.fu (few_of hd)) rfl rfl rfl rfl rfl rfl) ?_
  refine walk_r rfl rfl rfl (op_eql rfl (ev1 rfl) (ev1 rfl)) ?_
  refine walk_r rfl rfl rfl (dop_call [] [] [] rfl (ev1 rfl) (ec (ev1 rfl) (ec (ev1 rfl) en)) rfl rfl (need_ok _ _ (by rw [if_pos (show chkB d.f d.h d.w d.dn d.fu = true from hd)]; rfl)) rfl rfl rfl rfl rfl rfl) ?_
  refine walk_nil ?_
  refine dwp_seq ?_
  refine dwp_region ?_
  refine walk_r rfl rfl rfl (op_ldo rfl tb3 (ev1 rfl) rfl rfl) ?_
  refine walk_r rfl rfl rfl (op_geq rfl (ev1 rfl) (ev1 rfl)) ?_
  refine walk_r rfl rfl rfl (op_move (.inl rfl) (ev1 rfl)) ?_
  refine walk_gr (gd_t rfl rfl rfl) rfl rfl rfl (op_ldo rfl tb3 (ev1 rfl) rfl rfl) ?_
  refine walk_gr (gd_t rfl rfl rfl) rfl rfl rfl (op_geq rfl (ev2 rfl) (ev1 rfl)) ?_
  refine walk_r rfl rfl rfl (op_and rfl (ev1 rfl) (ev3 rfl id)) ?_
  refine walk_r rfl rfl rfl (dop_call [] [] [] rfl (ev1 rfl) (ec (ev1 rfl) (ec (ev1 rfl) en)) rfl rfl (need_ok _ _ (by simp)) rfl rfl rfl rfl rfl rfl) ?_
  refine walk_nil ?_
  refine dwp_seq ?_
  refine dwp_hole ?_
  refine dwp_fam 4 rfl (by simp only [List.cons_append, List.nil_append, List.set_cons_zero, List.set_cons_succ]; exact rfl) ?_
  refine dwp_holes 3 (by simp only [holes, List.cons_append, List.nil_append]; exact rfl) ?_
  refine dwp_region ?_
  refine walk_r rfl rfl rfl (op_lddr rfl tb26 (ev1 rfl) rfl rfl) ?_
  refine walk_w rfl rfl rfl (dop_call [4] [] [5, 6] rfl (ev1 rfl) (ec (ev1 rfl) en) rfl rfl (chof_Q d.f d.h d.w d.dn d.fu (allF_at hd) (few_of hd)) rfl rfl rfl (by exact (wrc rfl (wrc rfl (wrc (by first | exact rfl | exact sb_arx (fun _ => rfl) | exact sb_arxr (nlL_flatR (fun _ => rfl) _) | exact sb_arxg (fun _ => rfl) | exact sb_arxs (fun _ => rfl)) rfl)))) rfl rfl) (by simp only [upd, List.set_cons_zero, List.set_cons_succ]; exact rfl) ?_
  refine walk_w rfl rfl rfl (op_alloc 7 rfl zr82 rfl) (by simp only [upd, List.set_cons_zero, List.set_cons_succ]; exact rfl) ?_
  refine walk_s rfl rfl (op_stfm rfl tb82 (ev1 rfl) (ev1 rfl) (fun s v h => by cases h <;> exact ⟨rfl, rfl⟩) rfl (by decide)) (by simp only [upd, List.set_cons_zero, List.set_cons_succ]; exact rfl) ?_
  refine walk_nil ?_
  refine dwp_seq ?_
  refine dwp_label ?_
  refine dwp_seq ?_
  refine dwp_seq ?_
  refine dwp_holes 1 (by simp only [holes, List.cons_append, List.nil_append]; exact rfl) ?_
  refine dwp_region ?_
  refine walk_r rfl rfl rfl (op_ldm rfl tb82 (ev1 rfl) rfl rfl) ?_
  refine walk_w rfl rfl rfl (dop_call [4, 5, 6] [] [8] rfl (ev1 rfl) (ec (ev1 rfl) en) rfl (by exact mfits _ _ ⟨rfl, rfl, (by first | exact rfl | exact arx_fits rfl rfl (vwL_flat (fun _ => rfl) _) | exact arxr_fits rfl rfl (nlL_flatR (fun _ => rfl) _) | exact arxg_fits rfl rfl (fun _ => rfl) | exact arxs_fits rfl rfl (fun _ => rfl)), trivial⟩) (waiting_d (X0 d).1 d.dn d.fu (X0 d).2) rfl rfl rfl (by exact (wrc rfl (wrc rfl (wrc (by first | exact rfl | exact sb_arx (fun _ => rfl) | exact sb_arxr (nlL_flatR (fun _ => rfl) _) | exact sb_arxg (fun _ => rfl) | exact sb_arxs (fun _ => rfl)) (wrc rfl rfl))))) rfl rfl) (by simp only [upd, List.set_cons_zero, List.set_cons_succ]; exact rfl) ?_
  refine walk_nil ?_
  refine dwp_block ?_
  refine dwp_hole ?_
  simp only [List.cons_append, List.nil_append]
  refine dwp_rf (FL := [(4, _), (5, _), (8, _)]) (st := .done) (pe := (some (.exit 0))) [9, 7, 4, 5, 6, 0, 1, 8] [] [] 9 rfl rfl (ev1 rfl) rfl (subF_lk ⟨rfl, rfl, rfl, trivial⟩) rfl rfl (by exact mfits _ _ ⟨rfl, rfl, rfl, rfl, (by first | exact rfl | exact arx_fits rfl rfl (vwL_flat (fun _ => rfl) _) | exact arxg_fits rfl rfl (fun _ => rfl) | exact arxs_fits rfl rfl (fun _ => rfl)), rfl, rfl, rfl, trivial⟩) (waitF_stop (X0 d).1 d.dn d.fu (X0 d).2 keep t (X0_ok d).g ((X0_ok d).may hd) (by have := (chk0_parts (chk_parts hd).1).2.2.2; have h2 : (X0 d).2.length = d.w.length := (X0_ok d).len; omega) (stGs_bd ((X0_ok d).may hd) ((X0_ok d).few hd)) (by have h2 : (X0 d).2.length = d.w.length := (X0_ok d).len; omega)) rfl rfl rfl (by exact (wrc rfl (wrc rfl (wrc rfl (wrc rfl (wrc (by first | exact rfl | exact sb_arx (fun _ => rfl) | exact sb_arxr (nlL_flatR (fun _ => rfl) _) | exact sb_arxg (fun _ => rfl) | exact sb_arxs (fun _ => rfl)) (wrc rfl (wrc rfl (wrc rfl rfl))))))))) rfl rfl rfl (by simp) (fun e => ?_) (fun c e => ?_)
  · cases e
  · obtain rfl : c = .exit 0 := (Option.some.inj e).symm
    simp only [upd, List.set_cons_zero, List.set_cons_succ]
    refine dwp_exit ?_
    refine dwp_seq ?_
    refine dwp_draw [([7], []), ([7], []), ([7], []), ([], []), ([], []), ([], []), ([5], [5]), ([], []), ([], []), ([], []), ([5], [5]), ([], []), ([], []), ([], []), ([5], [5])] mixed (by kernel_rfl) ?_
    refine lex_r rfl rfl (op_ldm rfl tb82 (ev1 rfl) rfl rfl) ?_
    refine lex_r rfl rfl (op_ldm rfl tb82 (ev1 rfl) rfl rfl) ?_
    refine lex_r rfl rfl (op_ldm rfl tb82 (ev1 rfl) rfl rfl) ?_
    refine lex_r rfl rfl (op_nc rfl (ev1 rfl) (fun s v h => by cases h; exact ⟨_, rfl⟩)) ?_
    refine lex_r rfl rfl (op_fa rfl fo86_0 (ev1 rfl)) ?_
    refine lex_r rfl rfl (op_fa rfl fo26_3 (ev1 rfl)) ?_
    refine lex_s rfl rfl (op_stm rfl tb4 (ev1 rfl) (ev1 rfl) (fun s v h => by cases h <;> exact ⟨rfl, rfl⟩) rfl (by first | decide | exact Nat.le_of_ble_eq_true rfl | simp)) rfl (by simp only [upd, List.set_cons_zero, List.set_cons_succ]; exact rfl) ?_
    refine lex_r rfl rfl (op_nc rfl (ev1 rfl) (fun s v h => by cases h; exact ⟨_, rfl⟩)) ?_
    refine lex_r rfl rfl (op_fa rfl fo86_0 (ev1 rfl)) ?_
    refine lex_r rfl rfl (op_fa rfl fo26_4 (ev1 rfl)) ?_
    refine lex_s rfl rfl (op_stm rfl tb3 (ev1 rfl) (ev1 rfl) (fun s v h => by cases h <;> exact ⟨rfl, rfl⟩) rfl (by first | decide | exact Nat.le_of_ble_eq_true rfl | simp)) rfl (by simp only [upd, List.set_cons_zero, List.set_cons_succ]; exact rfl) ?_
    refine lex_r rfl rfl (op_nc rfl (ev1 rfl) (fun s v h => by cases h; exact ⟨_, rfl⟩)) ?_
    refine lex_r rfl rfl (op_fa rfl fo86_0 (ev1 rfl)) ?_
    refine lex_r rfl rfl (op_fa rfl fo26_2 (ev1 rfl)) ?_
    refine lex_s rfl rfl (op_stm rfl tb24 (ev1 rfl) (ev1 rfl) (fun s v h => by cases h <;> exact ⟨rfl, rfl⟩) rfl (by first | decide | exact Nat.le_of_ble_eq_true rfl | simp)) rfl (by simp only [upd, List.set_cons_zero, List.set_cons_succ]; exact rfl) ?_
    refine lex_nil ?_
    refine dwp_seq ?_
    refine dwp_region ?_
    refine walk_r rfl rfl rfl (op_ldm rfl tb82 (ev1 rfl) rfl rfl) ?_
    refine walk_r rfl rfl rfl (op_nc rfl (ev1 rfl) (fun s v h => by cases h; exact ⟨_, rfl⟩)) ?_
    refine walk_r rfl rfl rfl (op_fa rfl fo86_0 (ev1 rfl)) ?_
    refine walk_r rfl rfl rfl (op_ldmw rfl tb26 (ev1 rfl) rfl rfl) ?_
    refine walk_s rfl rfl (op_stam rfl tb26 (ev1 rfl) (ev1 rfl) rfl rfl rfl rfl) (by simp only [upd, List.set_cons_zero, List.set_cons_succ]; exact rfl) ?_
    refine walk_s rfl rfl (op_stwi rfl tb31 (ev1 rfl) (ev1 rfl) rfl) (by simp only [upd, List.set_cons_zero, List.set_cons_succ]; exact rfl) ?_
    refine walk_nil ?_
    refine dwp_ret ?_
    refine kdef (dturn_idle [3] [] rfl rfl (fallf_idle _) rfl rfl rfl rfl rfl) ?_
    refine kend [4] (rs2 rfl (rv_mw tb26 rfl rfl rfl) (rv_1 tb31 rfl rfl rfl)) rfl rfl ?_ ⟨?_, trivial⟩
    rfl
    all_goals exact rfl
end Go.Proofs.Ytjecmkaggobcjaa

namespace Go.Proofs.Ytjecmkaggobcjaa
set_option linter.unusedVariables false
set_option linter.unusedSimpArgs false
open Go.RowKit
theorem doF_at' {f : Nat → List Nat} {o : DOpn} (hf : 0 ≤ o.fl ∧ o.fl < 4) (i : Nat) : doF f o i = if o.fl = (i : Int) then setB (f i) o else f i := by
  unfold doF setB updF
  by_cases e : o.fl = (i : Int)
  · have e2 : o.fl.toNat = i := by omega
    rw [if_pos e, e2]
    by_cases k1 : o.kd = 1
    · rw [if_pos k1, if_pos k1, if_pos rfl]
    · rw [if_neg k1, if_neg k1]
      by_cases k2 : o.kd = 2
      · rw [if_pos k2, if_pos k2, if_pos rfl]
      · rw [if_neg k2, if_neg k2]
  · have e2 : ¬ i = o.fl.toNat := by omega
    rw [if_neg e]
    by_cases k1 : o.kd = 1
    · rw [if_pos k1, if_neg e2]
    · rw [if_neg k1]
      by_cases k2 : o.kd = 2
      · rw [if_pos k2, if_neg e2]
      · rw [if_neg k2]
theorem GOk.step' {s : DSt} {Q : List (DOpn × Nat)} {o : DOpn} (h : GOk s Q) (hf : 0 ≤ o.fl ∧ o.fl < 4) : GOk (stG s o) Q := by
  have hj : o.fl.toNat < 4 := by omega
  have lt : ∀ k B, s.B[k]? = some B → k < s.B.length := fun k B e => (List.getElem?_eq_some_iff.1 e).1
  have old : ∀ (k : Nat) B, s.B[k]? = some B → s.g o.fl.toNat ≠ k → (s.B.set (s.g o.fl.toNat) Mem.gone ++ [rowB (setB (s.f o.fl.toNat) o)])[k]? = some B := fun k B e hne => by
    rw [List.getElem?_append_left (by rw [List.length_set]; exact lt k B e), List.getElem?_set_ne hne]
    exact e
  refine ⟨fun i hi => ?_, fun i j hi hj2 e => ?_, fun q hq => old _ _ (h.wait q hq) (h.ne _ hj q hq), fun i hi q hq => ?_⟩
  · show (s.B.set (s.g o.fl.toNat) Mem.gone ++ [rowB (setB (s.f o.fl.toNat) o)])[updG s.g o.fl.toNat s.B.length i]? = some (rowB (doF s.f o i))
    rw [doF_at' hf i]
    unfold updG
    by_cases e : i = o.fl.toNat
    · have e2 : o.fl = (i : Int) := by omega
      rw [if_pos e, if_pos e2, List.getElem?_append_right (by rw [List.length_set]; exact Nat.le_refl _), List.length_set, Nat.sub_self, ← e]
      rfl
    · have e2 : ¬ o.fl = (i : Int) := by omega
      rw [if_neg e, if_neg e2]
      exact old _ _ (h.file i hi) fun e3 => e (h.inj _ _ hj hi e3).symm
  · revert e
    show updG s.g o.fl.toNat s.B.length i = updG s.g o.fl.toNat s.B.length j → i = j
    unfold updG
    have li := lt _ _ (h.file i hi)
    have lj := lt _ _ (h.file j hj2)
    by_cases e1 : i = o.fl.toNat <;> by_cases e2 : j = o.fl.toNat
    · exact fun _ => e1.trans e2.symm
    · rw [if_pos e1, if_neg e2]; intro e; omega
    · rw [if_neg e1, if_pos e2]; intro e; omega
    · rw [if_neg e1, if_neg e2]; exact h.inj i j hi hj2
  · show updG s.g o.fl.toNat s.B.length i ≠ q.2
    unfold updG
    have lq := lt _ _ (h.wait q hq)
    by_cases e1 : i = o.fl.toNat
    · rw [if_pos e1]; omega
    · rw [if_neg e1]; exact h.ne i hi q hq
theorem GOk.out {s : DSt} {Q : List (DOpn × Nat)} {q : DOpn × Nat} (h : GOk s Q) (hq : q ∈ Q) : GOk (outK s q.2) [] := by
  refine ⟨fun i hi => ?_, h.inj, fun q hq => absurd hq List.not_mem_nil, fun _ _ q hq => absurd hq List.not_mem_nil⟩
  show (s.B.set q.2 .gone)[s.g i]? = _
  rw [List.getElem?_set_ne (Ne.symm (h.ne i hi q hq))]
  exact h.file i hi
def fallF (f : Nat → List Nat) (w : List DOpn) (keep t : Nat) : Nat → List Nat := match w[keep]? with
  | some o => if o.kd = 1 then doF (seF f (w.take keep)) (tornO o t) else seF f (w.take keep)
  | none => seF f (w.take keep)
def fallS (d : DkS) (keep t : Nat) : DkS := ⟨fallF d.f d.w keep t, seH d.h (d.w.take keep), [], true, 0⟩
def zDk : DkS := ⟨fun _ => [], 0, [], false, 0⟩
def doS (d : DkS) (o : DOpn) : DkS := if opE d o = 0 then okS d o else if opE d o = 321 then dnS d else zDk
theorem wk_zD (e : Value) : Wk (.tup [.val (.agg #[.slice none 0 0, .slice none 0 0, .slice none 0 0, .slice none 0 0, .int .i64 0, .slice none 0 0, .bool false, .int .i64 0]), .val e]) (.tup [zDk.d, .val e]) :=
  Wk.tup (WkL.cons ((Wk.vagg [.slice none 0 0, .slice none 0 0, .slice none 0 0, .slice none 0 0, .int .i64 0, .slice none 0 0, .bool false, .int .i64 0]).trans (Wk.agg (WkL.cons (Wk.slf0 1) (WkL.cons (Wk.slf0 1) (WkL.cons (Wk.slf0 1) (WkL.cons (Wk.slf0 1) (WkL.cons (Wk.refl _) (WkL.cons (Wk.slm0 3) (WkL.refl _))))))))) (WkL.refl _))
theorem wk_zD3 (e e' : Value) : Wk (.tup [.val (.agg #[.slice none 0 0, .slice none 0 0, .slice none 0 0, .slice none 0 0, .int .i64 0, .slice none 0 0, .bool false, .int .i64 0]), .val e, .val e']) (.tup [zDk.d, .val e, .val e']) :=
  Wk.tup (WkL.cons ((Wk.vagg [.slice none 0 0, .slice none 0 0, .slice none 0 0, .slice none 0 0, .int .i64 0, .slice none 0 0, .bool false, .int .i64 0]).trans (Wk.agg (WkL.cons (Wk.slf0 1) (WkL.cons (Wk.slf0 1) (WkL.cons (Wk.slf0 1) (WkL.cons (Wk.slf0 1) (WkL.cons (Wk.refl _) (WkL.cons (Wk.slm0 3) (WkL.refl _))))))))) (WkL.refl _))
theorem wk_nilw (f : Nat → List Nat) (h : Int) (dn : Bool) (fu : Int) (e : Value) : Wk (.tup [.agg [rB (f 0), rB (f 1), rB (f 2), rB (f 3), .val (.int .i64 h), .val (.slice none 0 0), .val (.bool dn), .val (.int .i64 fu)], .val e]) (.tup [.agg (dD f h [] dn fu), .val e]) :=
  Wk.tup (WkL.cons (Wk.agg (WkL.cons (Wk.refl _) (WkL.cons (Wk.refl _) (WkL.cons (Wk.refl _) (WkL.cons (Wk.refl _) (WkL.cons (Wk.refl _) (WkL.cons (Wk.slm0 3) (WkL.refl _)))))))) (WkL.refl _))
theorem frz_x {x : DSt × List (DOpn × Nat)} {d : DkS} (hx : XOk x d) (dn : Bool) (fu : Int) : vw [] allv [.fam x.1.B, .arx 44 3 x.2.length (x.2.flatMap (oF 0))] (.agg (cG x.1.g x.1.h (.arr 1) dn fu)) = some (.agg (dD d.f d.h d.w dn fu)) := by
  have h1 := vw_cG (σ := []) (V := allv) (M := [.fam x.1.B, .arx 44 3 x.2.length (x.2.flatMap (oF 0))]) (Bs := x.1.B) (f := x.1.f) (g := x.1.g) (h := x.1.h) (dn := dn) (fu := fu) (nq := x.2.length) (i := 1) (Q := x.2) rfl rfl rfl rfl rfl rfl hx.g.wait rfl hx.g.file
  rw [hx.f, hx.h, hx.w] at h1
  rw [hx.h]
  exact h1
theorem frz_n {s : DSt} (hg : ∀ i, i < 4 → s.B[s.g i]? = some (rowB (s.f i))) (h : Int) (dn : Bool) (fu : Int) : vw [] allv [.fam s.B] (.agg (cG s.g h (.val (.slice none 0 0)) dn fu)) = some (.agg [rB (s.f 0), rB (s.f 1), rB (s.f 2), rB (s.f 3), .val (.int .i64 h), .val (.slice none 0 0), .val (.bool dn), .val (.int .i64 fu)]) := by
  have hl : vwL [] allv [.fam s.B] (cG s.g h (.val (.slice none 0 0)) dn fu) = some [rB (s.f 0), rB (s.f 1), rB (s.f 2), rB (s.f 3), .val (.int .i64 h), .val (.slice none 0 0), .val (.bool dn), .val (.int .i64 fu)] :=
    vwL_cons' (vw_fF rfl rfl rfl (hg 0 (by omega))) (vwL_cons' (vw_fF rfl rfl rfl (hg 1 (by omega))) (vwL_cons' (vw_fF rfl rfl rfl (hg 2 (by omega))) (vwL_cons' (vw_fF rfl rfl rfl (hg 3 (by omega))) (vwL_cons' (by rfl) (vwL_cons' (by rfl) (vwL_cons' (by rfl) (vwL_cons' (by rfl) rfl)))))))
  rw [vw, hl]
  rfl
theorem runZ_ok (d : DkS) (l : List DOpn) (hd : d.ok) (hl : l.length ≤ 10000) (hlb : ∀ o ∈ l, o.b.length ≤ 10000000) (hok : okK d l l.length) : DFun Try.prog 26 [d.d, .slm 3 l.length (l.flatMap oD)] [] (.tup [(stK d l l.length).d, .val (.int .i64 (l.length : Int)), .val (.int .i64 0)]) [] :=
  freeze (run_ok d l hd hl hlb hok) (vw_three (frz_x (XK_ok hd _ (Nat.le_refl _) hok) _ _))
theorem runZ_down (d : DkS) (l : List DOpn) (hd : d.ok) (hl : l.length ≤ 10000) (hlb : ∀ o ∈ l, o.b.length ≤ 10000000) (j : Nat) (hj : j < l.length) (hok : okK d l j) (he : opE (stK d l j) l[j] = 321) : DFun Try.prog 26 [d.d, .slm 3 l.length (l.flatMap oD)] [] (.tup [(dnS (stK d l j)).d, .val (.int .i64 (j : Int)), .val (.int .i64 321)]) [] :=
  freeze (run_down d l hd hl hlb j hj hok he) (vw_three (frz_x (XK_ok hd _ (by omega) hok) _ _))
theorem runZ_bad (d : DkS) (l : List DOpn) (hd : d.ok) (hl : l.length ≤ 10000) (hlb : ∀ o ∈ l, o.b.length ≤ 10000000) (j : Nat) (hj : j < l.length) (hok : okK d l j) (h0 : opE (stK d l j) l[j] ≠ 0) (h9 : opE (stK d l j) l[j] ≠ 321) : DFun Try.prog 26 [d.d, .slm 3 l.length (l.flatMap oD)] [] (.tup [zDk.d, .val (.int .i64 (j : Int)), .val (.int .i64 (opE (stK d l j) l[j]))]) [] :=
  (run_bad d l hd hl hlb j hj hok h0 h9).wk (wk_zD3 _ _)
theorem runZ_no (d : DkS) (l : List DOpn) (hb : fewB (szs d.f) d.w) (hl : l.length ≤ 10000) (hc : ¬ d.ok) : DFun Try.prog 26 [d.d, .slm 3 l.length (l.flatMap oD)] [] (.tup [zDk.d, .val (.int .i64 0), .val (.int .i64 320)]) [] :=
  (run_no d.f d.h d.w d.dn d.fu hb l hl hc).wk (wk_zD3 _ _)
theorem fallZ (d : DkS) (hd : d.ok) (keep t : Nat) : DFun Try.prog 31 [d.d, .val (.int .i64 (keep : Int)), .val (.int .i64 (t : Int))] [] (.tup [(fallS d keep t).d, .val (.int .i64 0)]) [] := by
  have hx := X0_ok d
  have hm := (chk_parts hd).2.2.1
  by_cases hkp : keep < d.w.length
  · have hq : keep < (X0 d).2.length := by have h2 : (X0 d).2.length = d.w.length := hx.len; omega
    have h1 := fall_stop d hd keep t hkp hq
    have hG := GOk.steps ((X0 d).2.take keep) hx.g (fun q hq => hx.may hd q (List.mem_of_mem_take hq))
    have hmem := List.getElem_mem hq
    have hof := (mayW_in (hx.may hd _ hmem)).2
    have hwo : ((X0 d).2[keep]'hq).1 = d.w[keep] := by
      have : ((X0 d).2.map Prod.fst)[keep]? = d.w[keep]? := by rw [hx.w]
      rw [List.getElem?_map, List.getElem?_eq_getElem hq, List.getElem?_eq_getElem hkp] at this
      exact Option.some.inj this
    have hG2 : ∀ i, i < 4 → (tearS (stGs (X0 d).1 ((X0 d).2.take keep)) ((X0 d).2[keep]'hq).1 ((X0 d).2[keep]'hq).2 t).B[(tearS (stGs (X0 d).1 ((X0 d).2.take keep)) ((X0 d).2[keep]'hq).1 ((X0 d).2[keep]'hq).2 t).g i]? = some (rowB ((tearS (stGs (X0 d).1 ((X0 d).2.take keep)) ((X0 d).2[keep]'hq).1 ((X0 d).2[keep]'hq).2 t).f i)) := by
      unfold tearS
      by_cases k1 : ((X0 d).2[keep]'hq).1.kd = 1
      · rw [if_pos k1]
        exact ((hG.out hmem).step' (o := tornO ((X0 d).2[keep]'hq).1 t) hof).file
      · rw [if_neg k1]; exact hG.file
    have hf : (tearS (stGs (X0 d).1 ((X0 d).2.take keep)) ((X0 d).2[keep]'hq).1 ((X0 d).2[keep]'hq).2 t).f = (fallS d keep t).f := by
      show _ = fallF d.f d.w keep t
      have e1 : (stGs (X0 d).1 ((X0 d).2.take keep)).f = seF d.f (d.w.take keep) := by rw [stGs_f, List.map_take, hx.w]; rfl
      unfold tearS fallF
      rw [List.getElem?_eq_getElem hkp]
      show _ = if d.w[keep].kd = 1 then _ else _
      rw [hwo]
      by_cases k1 : d.w[keep].kd = 1
      · rw [if_pos k1, if_pos k1]
        show doF (stGs (X0 d).1 ((X0 d).2.take keep)).f _ = _
        rw [e1]
      · rw [if_neg k1, if_neg k1, e1]
    have hh : (tearS (stGs (X0 d).1 ((X0 d).2.take keep)) ((X0 d).2[keep]'hq).1 ((X0 d).2[keep]'hq).2 t).h = (fallS d keep t).h := by
      show _ = seH d.h (d.w.take keep)
      have e1 : (stGs (X0 d).1 ((X0 d).2.take keep)).h = seH d.h (d.w.take keep) := by rw [stGs_h, List.map_take, hx.w]; rfl
      unfold tearS
      by_cases k1 : ((X0 d).2[keep]'hq).1.kd = 1
      · rw [if_pos k1]
        show doH _ (tornO _ t) = _
        unfold doH
        rw [if_pos (by exact k1)]
        exact e1
      · rw [if_neg k1]; exact e1
    have h2 := (freeze h1 (vw_two (frz_n hG2 _ _ _))).wk (wk_nilw _ _ _ _ _)
    rw [hf, hh] at h2
    exact h2
  · have h1 := fall_go d hd keep t (by omega)
    have hG := GOk.steps (X0 d).2 hx.g (hx.may hd)
    have hf : (stGs (X0 d).1 (X0 d).2).f = (fallS d keep t).f := by
      show _ = fallF d.f d.w keep t
      unfold fallF
      rw [List.getElem?_eq_none (by omega), stGs_f, hx.w, List.take_of_length_le (by omega)]; rfl
    have hh : (stGs (X0 d).1 (X0 d).2).h = (fallS d keep t).h := by
      show _ = seH d.h (d.w.take keep)
      rw [stGs_h, hx.w, List.take_of_length_le (by omega)]; rfl
    have h2 := (freeze h1 (vw_two (frz_n hG.file _ _ _))).wk (wk_nilw _ _ _ _ _)
    rw [hf, hh] at h2
    exact h2
theorem fallZ_arg (d : DkS) (hd : d.ok) (a b : Int) (hn : ¬ (0 ≤ a ∧ 0 ≤ b)) : DFun Try.prog 31 [d.d, .val (.int .i64 a), .val (.int .i64 b)] [] (.tup [zDk.d, .val (.int .i64 2)]) [] := (fall_arg d hd a b hn).wk (wk_zD _)
theorem fallZ_no (d : DkS) (hb : fewB (szs d.f) d.w) (hc : ¬ d.ok) (a b : Int) : DFun Try.prog 31 [d.d, .val (.int .i64 a), .val (.int .i64 b)] [] (.tup [zDk.d, .val (.int .i64 320)]) [] := (fall_no d hb hc a b).wk (wk_zD _)
theorem riseZ_no (d : DkS) (hb : fewB (szs d.f) d.w) (hc : ¬ d.ok) : DFun Try.prog 33 [d.d] [] (.tup [zDk.d, .val (.int .i64 320)]) [] := (rise_no d.f d.h d.w d.dn d.fu hb hc).wk (wk_zD _)
theorem riseZ_none (d : DkS) (hd : d.ok) (hn : d.dn = false) : DFun Try.prog 33 [d.d] [] (.tup [zDk.d, .val (.int .i64 4)]) [] := (rise_none d.f d.h d.w d.dn d.fu (few_of hd) hd hn).wk (wk_zD _)
def riseS (d : DkS) : DkS := ⟨d.f, d.h, [], false, d.fu⟩
theorem riseZ (d : DkS) (hd : d.ok) (hn : d.dn = true) : DFun Try.prog 33 [d.d] [] (.tup [(riseS d).d, .val (.int .i64 0)]) [] :=
  (freeze (rise_ok d.f d.h d.w d.dn d.fu (few_of hd) hd hn) (vw_two (frz_n (s := (X0 d).1) (X0_ok d).g.file _ _ _))).wk (wk_nilw _ _ _ _ _)
theorem armZ_no (d : DkS) (n : Int) (hb : fewB (szs d.f) d.w) (hc : ¬ d.ok) : DFun Try.prog 30 [d.d, .val (.int .i64 n)] [] (.tup [zDk.d, .val (.int .i64 320)]) [] := (arm_no d.f d.h d.w d.dn d.fu n hb hc).wk (wk_zD _)
theorem armZ_arg (d : DkS) (n : Int) (hd : d.ok) (hn : ¬ (0 ≤ n ∧ n ≤ 4096)) : DFun Try.prog 30 [d.d, .val (.int .i64 n)] [] (.tup [zDk.d, .val (.int .i64 2)]) [] := (arm_arg d.f d.h d.w d.dn d.fu n (few_of hd) hd hn).wk (wk_zD _)
theorem armZ_down (d : DkS) (n : Int) (hd : d.ok) (hn : 0 ≤ n ∧ n ≤ 4096) (hdn : d.dn = true) : DFun Try.prog 30 [d.d, .val (.int .i64 n)] [] (.tup [zDk.d, .val (.int .i64 321)]) [] := (arm_down d.f d.h d.w d.dn d.fu n (few_of hd) hd hn hdn).wk (wk_zD _)
def armS (d : DkS) (n : Int) : DkS := ⟨d.f, d.h, d.w, d.dn, n⟩
theorem armZ (d : DkS) (n : Int) (hd : d.ok) (hn : 0 ≤ n ∧ n ≤ 4096) (hdn : d.dn = false) : DFun Try.prog 30 [d.d, .val (.int .i64 n)] [] (.tup [(armS d n).d, .val (.int .i64 0)]) [] := by
  have h1 := arm_ok d.f d.h d.w d.dn d.fu n (few_of hd) hd hn hdn
  have h2 := frz_x (X0_ok d) d.dn n
  rw [show (X0 d).2.length = d.w.length from (X0_ok d).len] at h2
  exact freeze h1 (vw_two h2)
end Go.Proofs.Ytjecmkaggobcjaa
