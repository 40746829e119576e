/- nets behind a trick, and behind more parcels -/
import Derived.Test.YtgomklemldldiaaNd
namespace Go.Proofs.Ytgomklemldldiaa
set_option linter.unusedVariables false
set_option linter.unusedSimpArgs false
open Go.RowKit

set_option maxRecDepth 4000 in
set_option maxHeartbeats 1000000 in
theorem sendf_idle (e : Int) : DDef Try.prog 41 [.loc 0 0] [.flat 30 [.int .i64 e]] none none [.flat 30 [.int .i64 0]] := by
  refine ddef_go1 (dr := .tup []) (t := 1) (N := 3) 1 (by kernel_rfl) Try.func41 rfl rfl rfl (by simp only [fr0, Nat.zero_add, Nat.reduceAdd]; exact rfl) rfl rfl rfl rfl rfl fun s0 hs0 => ?_
  refine walk_r rfl rfl rfl (dop_call [] [] [] rfl (ev1 rfl) (ec (ev1 rfl) en) rfl rfl (told_no) rfl rfl rfl rfl rfl rfl) ?_
  refine walk_s rfl rfl (op_stwi rfl tb30 (ev1 rfl) (ev1 rfl) rfl) (by simp only [upd, List.set_cons_zero, List.set_cons_succ]; exact rfl) ?_
  refine walk_nil ?_
  refine kend [0] (res_none rfl) rfl rfl ?_ ⟨rfl, trivial⟩
  rfl

set_option maxRecDepth 4000 in
set_option maxHeartbeats 1000000 in
theorem sendf_caught (e n : Int) : DDef Try.prog 41 [.loc 0 0] [.flat 30 [.int .i64 e]] (some (.ifc 97 (.val (.agg #[.int .i64 n])))) none [.flat 30 [.int .i64 n]] := by
  refine ddef_go1 (dr := .tup []) (t := 1) (N := 3) 1 (by kernel_rfl) Try.func41 rfl rfl rfl (by simp only [fr0, Nat.zero_add, Nat.reduceAdd]; exact rfl) rfl rfl rfl rfl rfl fun s0 hs0 => ?_
  refine walk_r rfl rfl rfl (dop_call [] [] [] rfl (ev1 rfl) (ec (ev1 rfl) en) rfl rfl (told_w n) rfl rfl rfl rfl rfl rfl) ?_
  refine walk_s rfl rfl (op_stwi rfl tb30 (ev1 rfl) (ev1 rfl) rfl) (by simp only [upd, List.set_cons_zero, List.set_cons_succ]; exact rfl) ?_
  refine walk_nil ?_
  refine kend [0] (res_none rfl) rfl rfl ?_ ⟨rfl, trivial⟩
  rfl

set_option maxRecDepth 4000 in
set_option maxHeartbeats 1000000 in
theorem dof_idle (e : Int) : DDef Try.prog 47 [.loc 0 0] [.flat 30 [.int .i64 e]] none none [.flat 30 [.int .i64 0]] := by
  refine ddef_go1 (dr := .tup []) (t := 1) (N := 3) 1 (by kernel_rfl) Try.func47 rfl rfl rfl (by simp only [fr0, Nat.zero_add, Nat.reduceAdd]; exact rfl) rfl rfl rfl rfl rfl fun s0 hs0 => ?_
  refine walk_r rfl rfl rfl (dop_call [] [] [] rfl (ev1 rfl) (ec (ev1 rfl) en) rfl rfl (told_no) rfl rfl rfl rfl rfl rfl) ?_
  refine walk_s rfl rfl (op_stwi rfl tb30 (ev1 rfl) (ev1 rfl) rfl) (by simp only [upd, List.set_cons_zero, List.set_cons_succ]; exact rfl) ?_
  refine walk_nil ?_
  refine kend [0] (res_none rfl) rfl rfl ?_ ⟨rfl, trivial⟩
  rfl

set_option maxRecDepth 4000 in
set_option maxHeartbeats 1000000 in
theorem dof_caught (e n : Int) : DDef Try.prog 47 [.loc 0 0] [.flat 30 [.int .i64 e]] (some (.ifc 97 (.val (.agg #[.int .i64 n])))) none [.flat 30 [.int .i64 n]] := by
  refine ddef_go1 (dr := .tup []) (t := 1) (N := 3) 1 (by kernel_rfl) Try.func47 rfl rfl rfl (by simp only [fr0, Nat.zero_add, Nat.reduceAdd]; exact rfl) rfl rfl rfl rfl rfl fun s0 hs0 => ?_
  refine walk_r rfl rfl rfl (dop_call [] [] [] rfl (ev1 rfl) (ec (ev1 rfl) en) rfl rfl (told_w n) rfl rfl rfl rfl rfl rfl) ?_
  refine walk_s rfl rfl (op_stwi rfl tb30 (ev1 rfl) (ev1 rfl) rfl) (by simp only [upd, List.set_cons_zero, List.set_cons_succ]; exact rfl) ?_
  refine walk_nil ?_
  refine kend [0] (res_none rfl) rfl rfl ?_ ⟨rfl, trivial⟩
  rfl

set_option maxRecDepth 4000 in
set_option maxHeartbeats 1000000 in
theorem emptyf_idle (e : Int) : DDef Try.prog 54 [.loc 0 0] [.flat 30 [.int .i64 e]] none none [.flat 30 [.int .i64 0]] := by
  refine ddef_go1 (dr := .tup []) (t := 1) (N := 3) 1 (by kernel_rfl) Try.func54 rfl rfl rfl (by simp only [fr0, Nat.zero_add, Nat.reduceAdd]; exact rfl) rfl rfl rfl rfl rfl fun s0 hs0 => ?_
  refine walk_r rfl rfl rfl (dop_call [] [] [] rfl (ev1 rfl) (ec (ev1 rfl) en) rfl rfl (told_no) rfl rfl rfl rfl rfl rfl) ?_
  refine walk_s rfl rfl (op_stwi rfl tb30 (ev1 rfl) (ev1 rfl) rfl) (by simp only [upd, List.set_cons_zero, List.set_cons_succ]; exact rfl) ?_
  refine walk_nil ?_
  refine kend [0] (res_none rfl) rfl rfl ?_ ⟨rfl, trivial⟩
  rfl

set_option maxRecDepth 4000 in
set_option maxHeartbeats 1000000 in
theorem emptyf_caught (e n : Int) : DDef Try.prog 54 [.loc 0 0] [.flat 30 [.int .i64 e]] (some (.ifc 97 (.val (.agg #[.int .i64 n])))) none [.flat 30 [.int .i64 n]] := by
  refine ddef_go1 (dr := .tup []) (t := 1) (N := 3) 1 (by kernel_rfl) Try.func54 rfl rfl rfl (by simp only [fr0, Nat.zero_add, Nat.reduceAdd]; exact rfl) rfl rfl rfl rfl rfl fun s0 hs0 => ?_
  refine walk_r rfl rfl rfl (dop_call [] [] [] rfl (ev1 rfl) (ec (ev1 rfl) en) rfl rfl (told_w n) rfl rfl rfl rfl rfl rfl) ?_
  refine walk_s rfl rfl (op_stwi rfl tb30 (ev1 rfl) (ev1 rfl) rfl) (by simp only [upd, List.set_cons_zero, List.set_cons_succ]; exact rfl) ?_
  refine walk_nil ?_
  refine kend [0] (res_none rfl) rfl rfl ?_ ⟨rfl, trivial⟩
  rfl

theorem net_frz {P : Program} {f : FuncId} {args : List D} {Q : List Par} {u z : Value} {d : D} {T : TypeId} (h : DFun P f args [] (.tup [.agg [.arr 0, .val u], d, .val z]) [.arx T 3 Q.length (Q.flatMap pD)]) (hd : d.nl = true) : DFun P f args [] (.tup [.agg [.slm 3 Q.length (Q.flatMap pD), .val u], d, .val z]) [] := freeze h (by
  have e2 := vw_nl [] allv [Blk.arx T 3 Q.length (Q.flatMap pD)] d hd
  simp [vw, vwL, e2, vwArr_nl (σ := []) (M := [Blk.arx T 3 Q.length (Q.flatMap pD)]) (i := 0) rfl (fl_nl Q), pos])
theorem net_frz2 {P : Program} {f : FuncId} {args : List D} {Q : List Par} {u z : Value} {T : TypeId} (h : DFun P f args [] (.tup [.agg [.arr 0, .val u], .val z]) [.arx T 3 Q.length (Q.flatMap pD)]) : DFun P f args [] (.tup [.agg [.slm 3 Q.length (Q.flatMap pD), .val u], .val z]) [] := freeze h (by
  simp [vw, vwL, vwArr_nl (σ := []) (M := [Blk.arx T 3 Q.length (Q.flatMap pD)]) (i := 0) rfl (fl_nl Q), pos])
theorem net_frz3 {P : Program} {f : FuncId} {args : List D} {Q : List Par} {u z : Value} {T : TypeId} (h : DFun P f args [] (.tup [.val u, .arr 0, .val z]) [.arx T 3 Q.length (Q.flatMap pD)]) : DFun P f args [] (.tup [.val u, .slm 3 Q.length (Q.flatMap pD), .val z]) [] := freeze h (by
  simp [vw, vwL, vwArr_nl (σ := []) (M := [Blk.arx T 3 Q.length (Q.flatMap pD)]) (i := 0) rfl (fl_nl Q), pos])

set_option maxRecDepth 4000 in
set_option maxHeartbeats 1000000 in
theorem Do_take (P : List Par) (L : Nat) (bt mk : Int) (j : Nat) (h : j < P.length) (hN : netB P (L : Int) = true) (hP : P.length ≤ 64) : DFun Try.prog 21 [.agg [.slm 3 (P).length ((P).flatMap pD), .val (.int .u64 (L : Int))], .val (.agg #[.int .i64 1, .int .i64 (j : Int), .int .i64 bt, .int .u32 mk])] [] (.tup [.agg [.arr 0, .val (.int .u64 ((L : Nat) : Int))], .agg (pD P[j]), .val (.int .i64 0)]) [.arx 38 3 ((P.eraseIdx j)).length (((P.eraseIdx j)).flatMap pD)] := by
  refine dcalls_body (N := 20) 0 (by kernel_rfl) Try.func21 rfl rfl rfl (by simp only [fr0, Nat.zero_add, Nat.reduceAdd]; exact rfl) rfl fun s0 hs0 => ?_
  refine dbody_seq rfl hs0 ?_
  refine dwp_holes 5 (by simp only [holes, List.cons_append, List.nil_append]; exact rfl) ?_
  refine dwp_region ?_
  refine walk_w rfl rfl rfl (op_boxam 0 rfl (ev1 rfl) rfl) (by simp only [upd, List.set_cons_zero, List.set_cons_succ]; exact rfl) ?_
  refine walk_w rfl rfl rfl (op_boxa 1 rfl (ev1 rfl) rfl) (by simp only [upd, List.set_cons_zero, List.set_cons_succ]; exact rfl) ?_
  refine walk_w rfl rfl rfl (op_alloc 2 rfl zr25 rfl) (by simp only [upd, List.set_cons_zero, List.set_cons_succ]; exact rfl) ?_
  refine walk_w rfl rfl rfl (op_alloc 3 rfl zr38 rfl) (by simp only [upd, List.set_cons_zero, List.set_cons_succ]; exact rfl) ?_
  refine walk_w rfl rfl rfl (op_alloc 4 rfl zr30 rfl) (by simp only [upd, List.set_cons_zero, List.set_cons_succ]; exact rfl) ?_
  refine walk_nil ?_
  refine dbody_defer (l0 := [_]) rfl rfl rfl rfl rfl hs0 ?_
  refine walk_r rfl rfl rfl (op_mkf rfl en (ec (ev1 rfl) en)) ?_
  refine walk_nil ⟨_, _, _, 5, ev1 rfl, Nat.le_trans hs0 (by decide), rfl, ?_⟩
  have hs1 : s0.M.length ≤ 5 := Nat.le_trans hs0 (by decide)
  refine dbody_end rfl hs0 ?_
  refine dwp_seq ?_
  refine dwp_holes 2 (by simp only [holes, List.cons_append, List.nil_append]; exact rfl) ?_
  refine dwp_region ?_
  refine walk_r rfl rfl rfl (op_ldmw rfl tb25 (ev1 rfl) rfl rfl) ?_
  refine walk_w rfl rfl rfl (dop_call [] [] [5, 6] rfl (ev1 rfl) (ec (ev1 rfl) en) rfl rfl (chof_o P _ hN) rfl rfl rfl (by exact (wrc rfl (wrc (by first | exact rfl | exact sb_arx (fun _ => rfl) | exact sb_arxr (nlL_flatR (fun _ => rfl) _) | exact sb_arxg (fun _ => rfl) | exact sb_arxs (fun _ => rfl)) rfl))) rfl rfl) (by simp only [upd, List.set_cons_zero, List.set_cons_succ]; exact rfl) ?_
  refine walk_r rfl rfl rfl (op_move (.inr rfl) (ev1 rfl)) ?_
  refine walk_nil ?_
  refine dwp_seq ?_
  refine dwp_holes 2 (by simp only [holes, List.cons_append, List.nil_append]; exact rfl) ?_
  refine dwp_region ?_
  refine walk_r rfl rfl rfl (op_move (.inl rfl) (ev1 rfl)) ?_
  refine walk_r rfl rfl rfl (op_ldw rfl tb49 (ev1 rfl) rfl rfl) ?_
  refine walk_w rfl rfl rfl (dop_call [5, 6] [] [7] rfl (ev1 rfl) (ec (ev1 rfl) (ec (ev1 rfl) en)) rfl (by exact mfits _ _ ⟨rfl, (by first | exact rfl | exact arx_fits rfl rfl (vwL_flat (fun _ => rfl) _) | exact arxr_fits rfl rfl (nlL_flatR (fun _ => rfl) _) | exact arxg_fits rfl rfl (fun _ => rfl) | exact arxs_fits rfl rfl (fun _ => rfl)), trivial⟩) (do_take P L bt mk j h hP) rfl rfl rfl (by exact (wrc rfl (wrc rfl (wrc (by first | exact rfl | exact sb_arx (fun _ => rfl) | exact sb_arxr (nlL_flatR (fun _ => rfl) _) | exact sb_arxg (fun _ => rfl) | exact sb_arxs (fun _ => rfl)) rfl)))) rfl rfl) (by simp only [upd, List.set_cons_zero, List.set_cons_succ]; exact rfl) ?_
  refine walk_w rfl rfl rfl (op_alloc 8 rfl zr38 rfl) (by simp only [upd, List.set_cons_zero, List.set_cons_succ]; exact rfl) ?_
  refine walk_s rfl rfl (op_stam rfl tb38 (ev1 rfl) (ev1 rfl) rfl rfl rfl rfl) (by simp only [upd, List.set_cons_zero, List.set_cons_succ]; exact rfl) ?_
  refine walk_nil ?_
  refine dwp_seq ?_
  refine dwp_draw [([], []), ([], []), ([], []), ([5], []), ([8], []), ([2], [2]), ([3], [3]), ([4], [4])] mixed (by kernel_rfl) ?_
  refine lex_r rfl rfl (op_move (.inl rfl) (ev1 rfl)) ?_
  refine lex_r rfl rfl (op_nc rfl (ev1 rfl) (fun s v h => by cases h; exact ⟨_, rfl⟩)) ?_
  refine lex_r rfl rfl (op_fa rfl fo76_0 (ev1 rfl)) ?_
  refine lex_r rfl rfl (op_ldmw rfl tb25 (ev1 rfl) rfl rfl) ?_
  refine lex_r rfl rfl (op_ldmw rfl tb38 (ev1 rfl) rfl rfl) ?_
  refine lex_s rfl rfl (op_stam rfl tb25 (ev1 rfl) (ev1 rfl) rfl rfl rfl rfl) rfl (by simp only [upd, List.set_cons_zero, List.set_cons_succ]; exact rfl) ?_
  refine lex_s rfl rfl (op_stam rfl tb38 (ev1 rfl) (ev1 rfl) rfl rfl rfl rfl) rfl (by simp only [upd, List.set_cons_zero, List.set_cons_succ]; exact rfl) ?_
  refine lex_s rfl rfl (op_stwi rfl tb30 (ev1 rfl) (ev1 rfl) rfl) rfl (by simp only [upd, List.set_cons_zero, List.set_cons_succ]; exact rfl) ?_
  refine lex_nil ?_
  refine dwp_ret ?_
  refine kdef (dturn_idle [4] [] rfl rfl (dof_idle _) rfl rfl rfl rfl rfl) ?_
  refine kend [7] (rs3 rfl (rv_mw tb25 rfl rfl rfl) (rv_mw tb38 rfl rfl rfl) (rv_1 tb30 rfl rfl rfl)) rfl rfl ?_ ⟨?_, trivial⟩
  rfl
  all_goals first | exact rfl | exact arxr_fits rfl rfl (fl_nl _) | exact arxr_fits (by simp) rfl (fl_nl _)

set_option maxRecDepth 4000 in
set_option maxHeartbeats 1000000 in
theorem Do_drop (P : List Par) (L : Nat) (bt mk : Int) (j : Nat) (h : j < P.length) (hN : netB P (L : Int) = true) (hP : P.length ≤ 64) : DFun Try.prog 21 [.agg [.slm 3 (P).length ((P).flatMap pD), .val (.int .u64 (L : Int))], .val (.agg #[.int .i64 2, .int .i64 (j : Int), .int .i64 bt, .int .u32 mk])] [] (.tup [.agg [.arr 0, .val (.int .u64 ((L : Nat) : Int))], .val (.agg #[.int .i64 0, .slice none 0 0, .bool false]), .val (.int .i64 0)]) [.arx 38 3 ((P.eraseIdx j)).length (((P.eraseIdx j)).flatMap pD)] := by
  refine dcalls_body (N := 20) 0 (by kernel_rfl) Try.func21 rfl rfl rfl (by simp only [fr0, Nat.zero_add, Nat.reduceAdd]; exact rfl) rfl fun s0 hs0 => ?_
  refine dbody_seq rfl hs0 ?_
  refine dwp_holes 5 (by simp only [holes, List.cons_append, List.nil_append]; exact rfl) ?_
  refine dwp_region ?_
  refine walk_w rfl rfl rfl (op_boxam 0 rfl (ev1 rfl) rfl) (by simp only [upd, List.set_cons_zero, List.set_cons_succ]; exact rfl) ?_
  refine walk_w rfl rfl rfl (op_boxa 1 rfl (ev1 rfl) rfl) (by simp only [upd, List.set_cons_zero, List.set_cons_succ]; exact rfl) ?_
  refine walk_w rfl rfl rfl (op_alloc 2 rfl zr25 rfl) (by simp only [upd, List.set_cons_zero, List.set_cons_succ]; exact rfl) ?_
  refine walk_w rfl rfl rfl (op_alloc 3 rfl zr38 rfl) (by simp only [upd, List.set_cons_zero, List.set_cons_succ]; exact rfl) ?_
  refine walk_w rfl rfl rfl (op_alloc 4 rfl zr30 rfl) (by simp only [upd, List.set_cons_zero, List.set_cons_succ]; exact rfl) ?_
  refine walk_nil ?_
  refine dbody_defer (l0 := [_]) rfl rfl rfl rfl rfl hs0 ?_
  refine walk_r rfl rfl rfl (op_mkf rfl en (ec (ev1 rfl) en)) ?_
  refine walk_nil ⟨_, _, _, 5, ev1 rfl, Nat.le_trans hs0 (by decide), rfl, ?_⟩
  have hs1 : s0.M.length ≤ 5 := Nat.le_trans hs0 (by decide)
  refine dbody_end rfl hs0 ?_
  refine dwp_seq ?_
  refine dwp_holes 2 (by simp only [holes, List.cons_append, List.nil_append]; exact rfl) ?_
  refine dwp_region ?_
  refine walk_r rfl rfl rfl (op_ldmw rfl tb25 (ev1 rfl) rfl rfl) ?_
  refine walk_w rfl rfl rfl (dop_call [] [] [5, 6] rfl (ev1 rfl) (ec (ev1 rfl) en) rfl rfl (chof_o P _ hN) rfl rfl rfl (by exact (wrc rfl (wrc (by first | exact rfl | exact sb_arx (fun _ => rfl) | exact sb_arxr (nlL_flatR (fun _ => rfl) _) | exact sb_arxg (fun _ => rfl) | exact sb_arxs (fun _ => rfl)) rfl))) rfl rfl) (by simp only [upd, List.set_cons_zero, List.set_cons_succ]; exact rfl) ?_
  refine walk_r rfl rfl rfl (op_move (.inr rfl) (ev1 rfl)) ?_
  refine walk_nil ?_
  refine dwp_seq ?_
  refine dwp_holes 2 (by simp only [holes, List.cons_append, List.nil_append]; exact rfl) ?_
  refine dwp_region ?_
  refine walk_r rfl rfl rfl (op_move (.inl rfl) (ev1 rfl)) ?_
  refine walk_r rfl rfl rfl (op_ldw rfl tb49 (ev1 rfl) rfl rfl) ?_
  refine walk_w rfl rfl rfl (dop_call [5, 6] [] [7] rfl (ev1 rfl) (ec (ev1 rfl) (ec (ev1 rfl) en)) rfl (by exact mfits _ _ ⟨rfl, (by first | exact rfl | exact arx_fits rfl rfl (vwL_flat (fun _ => rfl) _) | exact arxr_fits rfl rfl (nlL_flatR (fun _ => rfl) _) | exact arxg_fits rfl rfl (fun _ => rfl) | exact arxs_fits rfl rfl (fun _ => rfl)), trivial⟩) (do_drop P L bt mk j h hP) rfl rfl rfl (by exact (wrc rfl (wrc rfl (wrc (by first | exact rfl | exact sb_arx (fun _ => rfl) | exact sb_arxr (nlL_flatR (fun _ => rfl) _) | exact sb_arxg (fun _ => rfl) | exact sb_arxs (fun _ => rfl)) rfl)))) rfl rfl) (by simp only [upd, List.set_cons_zero, List.set_cons_succ]; exact rfl) ?_
  refine walk_w rfl rfl rfl (op_alloc 8 rfl zr38 rfl) (by simp only [upd, List.set_cons_zero, List.set_cons_succ]; exact rfl) ?_
  refine walk_s rfl rfl (op_stwa rfl tb38 (ev1 rfl) (ev1 rfl) rfl rfl rfl rfl) (by simp only [upd, List.set_cons_zero, List.set_cons_succ]; exact rfl) ?_
  refine walk_nil ?_
  refine dwp_seq ?_
  refine dwp_draw [([], []), ([], []), ([], []), ([5], []), ([8], []), ([2], [2]), ([3], [3]), ([4], [4])] mixed (by kernel_rfl) ?_
  refine lex_r rfl rfl (op_move (.inl rfl) (ev1 rfl)) ?_
  refine lex_r rfl rfl (op_nc rfl (ev1 rfl) (fun s v h => by cases h; exact ⟨_, rfl⟩)) ?_
  refine lex_r rfl rfl (op_fa rfl fo76_0 (ev1 rfl)) ?_
  refine lex_r rfl rfl (op_ldmw rfl tb25 (ev1 rfl) rfl rfl) ?_
  refine lex_r rfl rfl (op_ldw rfl tb38 (ev1 rfl) rfl rfl) ?_
  refine lex_s rfl rfl (op_stam rfl tb25 (ev1 rfl) (ev1 rfl) rfl rfl rfl rfl) rfl (by simp only [upd, List.set_cons_zero, List.set_cons_succ]; exact rfl) ?_
  refine lex_s rfl rfl (op_stwa rfl tb38 (ev1 rfl) (ev1 rfl) rfl rfl rfl rfl) rfl (by simp only [upd, List.set_cons_zero, List.set_cons_succ]; exact rfl) ?_
  refine lex_s rfl rfl (op_stwi rfl tb30 (ev1 rfl) (ev1 rfl) rfl) rfl (by simp only [upd, List.set_cons_zero, List.set_cons_succ]; exact rfl) ?_
  refine lex_nil ?_
  refine dwp_ret ?_
  refine kdef (dturn_idle [4] [] rfl rfl (dof_idle _) rfl rfl rfl rfl rfl) ?_
  refine kend [7] (rs3 rfl (rv_mw tb25 rfl rfl rfl) (rv_w tb38 rfl rfl rfl) (rv_1 tb30 rfl rfl rfl)) rfl rfl ?_ ⟨?_, trivial⟩
  rfl
  all_goals first | exact rfl | exact arxr_fits rfl rfl (fl_nl _) | exact arxr_fits (by simp) rfl (fl_nl _)

set_option maxRecDepth 4000 in
set_option maxHeartbeats 1000000 in
theorem Do_twice (P : List Par) (L : Nat) (bt mk : Int) (j : Nat) (h : j < P.length) (hN : netB P (L : Int) = true) (hP : P.length < 64) (hl : ∀ p ∈ P, p.b.length ≤ 2000000) : DFun Try.prog 21 [.agg [.slm 3 (P).length ((P).flatMap pD), .val (.int .u64 (L : Int))], .val (.agg #[.int .i64 3, .int .i64 (j : Int), .int .i64 bt, .int .u32 mk])] [] (.tup [.agg [.arr 0, .val (.int .u64 ((L : Nat) : Int))], .val (.agg #[.int .i64 0, .slice none 0 0, .bool false]), .val (.int .i64 0)]) [.arx 38 3 ((P ++ [P[j]])).length (((P ++ [P[j]])).flatMap pD)] := by
  refine dcalls_body (N := 20) 0 (by kernel_rfl) Try.func21 rfl rfl rfl (by simp only [fr0, Nat.zero_add, Nat.reduceAdd]; exact rfl) rfl fun s0 hs0 => ?_
  refine dbody_seq rfl hs0 ?_
  refine dwp_holes 5 (by simp only [holes, List.cons_append, List.nil_append]; exact rfl) ?_
  refine dwp_region ?_
  refine walk_w rfl rfl rfl (op_boxam 0 rfl (ev1 rfl) rfl) (by simp only [upd, List.set_cons_zero, List.set_cons_succ]; exact rfl) ?_
  refine walk_w rfl rfl rfl (op_boxa 1 rfl (ev1 rfl) rfl) (by simp only [upd, List.set_cons_zero, List.set_cons_succ]; exact rfl) ?_
  refine walk_w rfl rfl rfl (op_alloc 2 rfl zr25 rfl) (by simp only [upd, List.set_cons_zero, List.set_cons_succ]; exact rfl) ?_
  refine walk_w rfl rfl rfl (op_alloc 3 rfl zr38 rfl) (by simp only [upd, List.set_cons_zero, List.set_cons_succ]; exact rfl) ?_
  refine walk_w rfl rfl rfl (op_alloc 4 rfl zr30 rfl) (by simp only [upd, List.set_cons_zero, List.set_cons_succ]; exact rfl) ?_
  refine walk_nil ?_
  refine dbody_defer (l0 := [_]) rfl rfl rfl rfl rfl hs0 ?_
  refine walk_r rfl rfl rfl (op_mkf rfl en (ec (ev1 rfl) en)) ?_
  refine walk_nil ⟨_, _, _, 5, ev1 rfl, Nat.le_trans hs0 (by decide), rfl, ?_⟩
  have hs1 : s0.M.length ≤ 5 := Nat.le_trans hs0 (by decide)
  refine dbody_end rfl hs0 ?_
  refine dwp_seq ?_
  refine dwp_holes 2 (by simp only [holes, List.cons_append, List.nil_append]; exact rfl) ?_
  refine dwp_region ?_
  refine walk_r rfl rfl rfl (op_ldmw rfl tb25 (ev1 rfl) rfl rfl) ?_
  refine walk_w rfl rfl rfl (dop_call [] [] [5, 6] rfl (ev1 rfl) (ec (ev1 rfl) en) rfl rfl (chof_o P _ hN) rfl rfl rfl (by exact (wrc rfl (wrc (by first | exact rfl | exact sb_arx (fun _ => rfl) | exact sb_arxr (nlL_flatR (fun _ => rfl) _) | exact sb_arxg (fun _ => rfl) | exact sb_arxs (fun _ => rfl)) rfl))) rfl rfl) (by simp only [upd, List.set_cons_zero, List.set_cons_succ]; exact rfl) ?_
  refine walk_r rfl rfl rfl (op_move (.inr rfl) (ev1 rfl)) ?_
  refine walk_nil ?_
  refine dwp_seq ?_
  refine dwp_holes 2 (by simp only [holes, List.cons_append, List.nil_append]; exact rfl) ?_
  refine dwp_region ?_
  refine walk_r rfl rfl rfl (op_move (.inl rfl) (ev1 rfl)) ?_
  refine walk_r rfl rfl rfl (op_ldw rfl tb49 (ev1 rfl) rfl rfl) ?_
  refine walk_w rfl rfl rfl (dop_call [5, 6] [] [7] rfl (ev1 rfl) (ec (ev1 rfl) (ec (ev1 rfl) en)) rfl (by exact mfits _ _ ⟨rfl, (by first | exact rfl | exact arx_fits rfl rfl (vwL_flat (fun _ => rfl) _) | exact arxr_fits rfl rfl (nlL_flatR (fun _ => rfl) _) | exact arxg_fits rfl rfl (fun _ => rfl) | exact arxs_fits rfl rfl (fun _ => rfl)), trivial⟩) (do_twice P L bt mk j h hP hl) rfl rfl rfl (by exact (wrc rfl (wrc rfl (wrc (by first | exact rfl | exact sb_arx (fun _ => rfl) | exact sb_arxr (nlL_flatR (fun _ => rfl) _) | exact sb_arxg (fun _ => rfl) | exact sb_arxs (fun _ => rfl)) rfl)))) rfl rfl) (by simp only [upd, List.set_cons_zero, List.set_cons_succ]; exact rfl) ?_
  refine walk_w rfl rfl rfl (op_alloc 8 rfl zr38 rfl) (by simp only [upd, List.set_cons_zero, List.set_cons_succ]; exact rfl) ?_
  refine walk_s rfl rfl (op_stwa rfl tb38 (ev1 rfl) (ev1 rfl) rfl rfl rfl rfl) (by simp only [upd, List.set_cons_zero, List.set_cons_succ]; exact rfl) ?_
  refine walk_nil ?_
  refine dwp_seq ?_
  refine dwp_draw [([], []), ([], []), ([], []), ([5], []), ([8], []), ([2], [2]), ([3], [3]), ([4], [4])] mixed (by kernel_rfl) ?_
  refine lex_r rfl rfl (op_move (.inl rfl) (ev1 rfl)) ?_
  refine lex_r rfl rfl (op_nc rfl (ev1 rfl) (fun s v h => by cases h; exact ⟨_, rfl⟩)) ?_
  refine lex_r rfl rfl (op_fa rfl fo76_0 (ev1 rfl)) ?_
  refine lex_r rfl rfl (op_ldmw rfl tb25 (ev1 rfl) rfl rfl) ?_
  refine lex_r rfl rfl (op_ldw rfl tb38 (ev1 rfl) rfl rfl) ?_
  refine lex_s rfl rfl (op_stam rfl tb25 (ev1 rfl) (ev1 rfl) rfl rfl rfl rfl) rfl (by simp only [upd, List.set_cons_zero, List.set_cons_succ]; exact rfl) ?_
  refine lex_s rfl rfl (op_stwa rfl tb38 (ev1 rfl) (ev1 rfl) rfl rfl rfl rfl) rfl (by simp only [upd, List.set_cons_zero, List.set_cons_succ]; exact rfl) ?_
  refine lex_s rfl rfl (op_stwi rfl tb30 (ev1 rfl) (ev1 rfl) rfl) rfl (by simp only [upd, List.set_cons_zero, List.set_cons_succ]; exact rfl) ?_
  refine lex_nil ?_
  refine dwp_ret ?_
  refine kdef (dturn_idle [4] [] rfl rfl (dof_idle _) rfl rfl rfl rfl rfl) ?_
  refine kend [7] (rs3 rfl (rv_mw tb25 rfl rfl rfl) (rv_w tb38 rfl rfl rfl) (rv_1 tb30 rfl rfl rfl)) rfl rfl ?_ ⟨?_, trivial⟩
  rfl
  all_goals first | exact rfl | exact arxr_fits rfl rfl (fl_nl _) | exact arxr_fits (by simp) rfl (fl_nl _)

set_option maxRecDepth 4000 in
set_option maxHeartbeats 1000000 in
theorem Do_full (P : List Par) (L : Nat) (bt mk : Int) (j : Nat) (h : j < P.length) (hN : netB P (L : Int) = true) (hP : 64 ≤ P.length) (hL : L < 4611686018427387904) : DFun Try.prog 21 [.agg [.slm 3 (P).length ((P).flatMap pD), .val (.int .u64 (L : Int))], .val (.agg #[.int .i64 3, .int .i64 (j : Int), .int .i64 bt, .int .u32 mk])] [] (.tup [.agg [.arr 0, .val (.int .u64 ((L + 1 : Nat) : Int))], .val (.agg #[.int .i64 0, .slice none 0 0, .bool false]), .val (.int .i64 0)]) [.arx 38 3 (P).length ((P).flatMap pD)] := by
  refine dcalls_body (N := 20) 0 (by kernel_rfl) Try.func21 rfl rfl rfl (by simp only [fr0, Nat.zero_add, Nat.reduceAdd]; exact rfl) rfl fun s0 hs0 => ?_
  refine dbody_seq rfl hs0 ?_
  refine dwp_holes 5 (by simp only [holes, List.cons_append, List.nil_append]; exact rfl) ?_
  refine dwp_region ?_
  refine walk_w rfl rfl rfl (op_boxam 0 rfl (ev1 rfl) rfl) (by simp only [upd, List.set_cons_zero, List.set_cons_succ]; exact rfl) ?_
  refine walk_w rfl rfl rfl (op_boxa 1 rfl (ev1 rfl) rfl) (by simp only [upd, List.set_cons_zero, List.set_cons_succ]; exact rfl) ?_
  refine walk_w rfl rfl rfl (op_alloc 2 rfl zr25 rfl) (by simp only [upd, List.set_cons_zero, List.set_cons_succ]; exact rfl) ?_
  refine walk_w rfl rfl rfl (op_alloc 3 rfl zr38 rfl) (by simp only [upd, List.set_cons_zero, List.set_cons_succ]; exact rfl) ?_
  refine walk_w rfl rfl rfl (op_alloc 4 rfl zr30 rfl) (by simp only [upd, List.set_cons_zero, List.set_cons_succ]; exact rfl) ?_
  refine walk_nil ?_
  refine dbody_defer (l0 := [_]) rfl rfl rfl rfl rfl hs0 ?_
  refine walk_r rfl rfl rfl (op_mkf rfl en (ec (ev1 rfl) en)) ?_
  refine walk_nil ⟨_, _, _, 5, ev1 rfl, Nat.le_trans hs0 (by decide), rfl, ?_⟩
  have hs1 : s0.M.length ≤ 5 := Nat.le_trans hs0 (by decide)
  refine dbody_end rfl hs0 ?_
  refine dwp_seq ?_
  refine dwp_holes 2 (by simp only [holes, List.cons_append, List.nil_append]; exact rfl) ?_
  refine dwp_region ?_
  refine walk_r rfl rfl rfl (op_ldmw rfl tb25 (ev1 rfl) rfl rfl) ?_
  refine walk_w rfl rfl rfl (dop_call [] [] [5, 6] rfl (ev1 rfl) (ec (ev1 rfl) en) rfl rfl (chof_o P _ hN) rfl rfl rfl (by exact (wrc rfl (wrc (by first | exact rfl | exact sb_arx (fun _ => rfl) | exact sb_arxr (nlL_flatR (fun _ => rfl) _) | exact sb_arxg (fun _ => rfl) | exact sb_arxs (fun _ => rfl)) rfl))) rfl rfl) (by simp only [upd, List.set_cons_zero, List.set_cons_succ]; exact rfl) ?_
  refine walk_r rfl rfl rfl (op_move (.inr rfl) (ev1 rfl)) ?_
  refine walk_nil ?_
  refine dwp_seq ?_
  refine dwp_holes 1 (by simp only [holes, List.cons_append, List.nil_append]; exact rfl) ?_
  refine dwp_region ?_
  refine walk_r rfl rfl rfl (op_move (.inl rfl) (ev1 rfl)) ?_
  refine walk_r rfl rfl rfl (op_ldw rfl tb49 (ev1 rfl) rfl rfl) ?_
  refine walk_w rfl rfl rfl (dop_call [5, 6] [] [] rfl (ev1 rfl) (ec (ev1 rfl) (ec (ev1 rfl) en)) rfl (by exact mfits _ _ ⟨rfl, (by first | exact rfl | exact arx_fits rfl rfl (vwL_flat (fun _ => rfl) _) | exact arxr_fits rfl rfl (nlL_flatR (fun _ => rfl) _) | exact arxg_fits rfl rfl (fun _ => rfl) | exact arxs_fits rfl rfl (fun _ => rfl)), trivial⟩) (do_full P L bt mk j h hP hL) rfl rfl rfl (by exact (wrc rfl (wrc (by first | exact rfl | exact sb_arx (fun _ => rfl) | exact sb_arxr (nlL_flatR (fun _ => rfl) _) | exact sb_arxg (fun _ => rfl) | exact sb_arxs (fun _ => rfl)) rfl))) rfl rfl) (by simp only [upd, List.set_cons_zero, List.set_cons_succ]; exact rfl) ?_
  refine walk_w rfl rfl rfl (op_alloc 7 rfl zr38 rfl) (by simp only [upd, List.set_cons_zero, List.set_cons_succ]; exact rfl) ?_
  refine walk_s rfl rfl (op_stwa rfl tb38 (ev1 rfl) (ev1 rfl) rfl rfl rfl rfl) (by simp only [upd, List.set_cons_zero, List.set_cons_succ]; exact rfl) ?_
  refine walk_nil ?_
  refine dwp_seq ?_
  refine dwp_draw [([], []), ([], []), ([], []), ([5], []), ([7], []), ([2], [2]), ([3], [3]), ([4], [4])] mixed (by kernel_rfl) ?_
  refine lex_r rfl rfl (op_move (.inl rfl) (ev1 rfl)) ?_
  refine lex_r rfl rfl (op_nc rfl (ev1 rfl) (fun s v h => by cases h; exact ⟨_, rfl⟩)) ?_
  refine lex_r rfl rfl (op_fa rfl fo76_0 (ev1 rfl)) ?_
  refine lex_r rfl rfl (op_ldmw rfl tb25 (ev1 rfl) rfl rfl) ?_
  refine lex_r rfl rfl (op_ldw rfl tb38 (ev1 rfl) rfl rfl) ?_
  refine lex_s rfl rfl (op_stam rfl tb25 (ev1 rfl) (ev1 rfl) rfl rfl rfl rfl) rfl (by simp only [upd, List.set_cons_zero, List.set_cons_succ]; exact rfl) ?_
  refine lex_s rfl rfl (op_stwa rfl tb38 (ev1 rfl) (ev1 rfl) rfl rfl rfl rfl) rfl (by simp only [upd, List.set_cons_zero, List.set_cons_succ]; exact rfl) ?_
  refine lex_s rfl rfl (op_stwi rfl tb30 (ev1 rfl) (ev1 rfl) rfl) rfl (by simp only [upd, List.set_cons_zero, List.set_cons_succ]; exact rfl) ?_
  refine lex_nil ?_
  refine dwp_ret ?_
  refine kdef (dturn_idle [4] [] rfl rfl (dof_idle _) rfl rfl rfl rfl rfl) ?_
  refine kend [6] (rs3 rfl (rv_mw tb25 rfl rfl rfl) (rv_w tb38 rfl rfl rfl) (rv_1 tb30 rfl rfl rfl)) rfl rfl ?_ ⟨?_, trivial⟩
  rfl
  all_goals first | exact rfl | exact arxr_fits rfl rfl (fl_nl _) | exact arxr_fits (by simp) rfl (fl_nl _)

set_option maxRecDepth 4000 in
set_option maxHeartbeats 1000000 in
theorem Do_spl (P : List Par) (L : Nat) (bit mask : Nat) (j : Nat) (h : j < P.length) (hN : netB P (L : Int) = true) (hsp : P[j].sp = false) (hm : mask < 2 ^ 32) (hb : bit < 8 * P[j].b.length) (hl : P[j].b.length ≤ 1000000) (hn : ∀ x ∈ P[j].b, x < 256) (h0 : ¬ ∀ k, k < P[j].b.length → ((mask <<< bit) >>> (8 * k)) % 256 = 0) : DFun Try.prog 21 [.agg [.slm 3 (P).length ((P).flatMap pD), .val (.int .u64 (L : Int))], .val (.agg #[.int .i64 4, .int .i64 (j : Int), .int .i64 (bit : Int), .int .u32 (mask : Int)])] [] (.tup [.agg [.arr 0, .val (.int .u64 ((L : Nat) : Int))], .val (.agg #[.int .i64 0, .slice none 0 0, .bool false]), .val (.int .i64 0)]) [.arx 38 3 ((P.set j ⟨P[j].to, spl (mask <<< bit) P[j].b, true⟩)).length (((P.set j ⟨P[j].to, spl (mask <<< bit) P[j].b, true⟩)).flatMap pD)] := by
  refine dcalls_body (N := 20) 0 (by kernel_rfl) Try.func21 rfl rfl rfl (by simp only [fr0, Nat.zero_add, Nat.reduceAdd]; exact rfl) rfl fun s0 hs0 => ?_
  refine dbody_seq rfl hs0 ?_
  refine dwp_holes 5 (by simp only [holes, List.cons_append, List.nil_append]; exact rfl) ?_
  refine dwp_region ?_
  refine walk_w rfl rfl rfl (op_boxam 0 rfl (ev1 rfl) rfl) (by simp only [upd, List.set_cons_zero, List.set_cons_succ]; exact rfl) ?_
  refine walk_w rfl rfl rfl (op_boxa 1 rfl (ev1 rfl) rfl) (by simp only [upd, List.set_cons_zero, List.set_cons_succ]; exact rfl) ?_
  refine walk_w rfl rfl rfl (op_alloc 2 rfl zr25 rfl) (by simp only [upd, List.set_cons_zero, List.set_cons_succ]; exact rfl) ?_
  refine walk_w rfl rfl rfl (op_alloc 3 rfl zr38 rfl) (by simp only [upd, List.set_cons_zero, List.set_cons_succ]; exact rfl) ?_
  refine walk_w rfl rfl rfl (op_alloc 4 rfl zr30 rfl) (by simp only [upd, List.set_cons_zero, List.set_cons_succ]; exact rfl) ?_
  refine walk_nil ?_
  refine dbody_defer (l0 := [_]) rfl rfl rfl rfl rfl hs0 ?_
  refine walk_r rfl rfl rfl (op_mkf rfl en (ec (ev1 rfl) en)) ?_
  refine walk_nil ⟨_, _, _, 5, ev1 rfl, Nat.le_trans hs0 (by decide), rfl, ?_⟩
  have hs1 : s0.M.length ≤ 5 := Nat.le_trans hs0 (by decide)
  refine dbody_end rfl hs0 ?_
  refine dwp_seq ?_
  refine dwp_holes 2 (by simp only [holes, List.cons_append, List.nil_append]; exact rfl) ?_
  refine dwp_region ?_
  refine walk_r rfl rfl rfl (op_ldmw rfl tb25 (ev1 rfl) rfl rfl) ?_
  refine walk_w rfl rfl rfl (dop_call [] [] [5, 6] rfl (ev1 rfl) (ec (ev1 rfl) en) rfl rfl (chof_o P _ hN) rfl rfl rfl (by exact (wrc rfl (wrc (by first | exact rfl | exact sb_arx (fun _ => rfl) | exact sb_arxr (nlL_flatR (fun _ => rfl) _) | exact sb_arxg (fun _ => rfl) | exact sb_arxs (fun _ => rfl)) rfl))) rfl rfl) (by simp only [upd, List.set_cons_zero, List.set_cons_succ]; exact rfl) ?_
  refine walk_r rfl rfl rfl (op_move (.inr rfl) (ev1 rfl)) ?_
  refine walk_nil ?_
  refine dwp_seq ?_
  refine dwp_holes 1 (by simp only [holes, List.cons_append, List.nil_append]; exact rfl) ?_
  refine dwp_region ?_
  refine walk_r rfl rfl rfl (op_move (.inl rfl) (ev1 rfl)) ?_
  refine walk_r rfl rfl rfl (op_ldw rfl tb49 (ev1 rfl) rfl rfl) ?_
  refine walk_w rfl rfl rfl (dop_call [5, 6] [] [] rfl (ev1 rfl) (ec (ev1 rfl) (ec (ev1 rfl) en)) rfl (by exact mfits _ _ ⟨rfl, (by first | exact rfl | exact arx_fits rfl rfl (vwL_flat (fun _ => rfl) _) | exact arxr_fits rfl rfl (nlL_flatR (fun _ => rfl) _) | exact arxg_fits rfl rfl (fun _ => rfl) | exact arxs_fits rfl rfl (fun _ => rfl)), trivial⟩) (do_spl P L bit mask j h hsp hm hb hl hn h0) rfl rfl rfl (by exact (wrc rfl (wrc (by first | exact rfl | exact sb_arx (fun _ => rfl) | exact sb_arxr (nlL_flatR (fun _ => rfl) _) | exact sb_arxg (fun _ => rfl) | exact sb_arxs (fun _ => rfl)) rfl))) rfl rfl) (by simp only [upd, List.set_cons_zero, List.set_cons_succ]; exact rfl) ?_
  refine walk_w rfl rfl rfl (op_alloc 7 rfl zr38 rfl) (by simp only [upd, List.set_cons_zero, List.set_cons_succ]; exact rfl) ?_
  refine walk_s rfl rfl (op_stwa rfl tb38 (ev1 rfl) (ev1 rfl) rfl rfl rfl rfl) (by simp only [upd, List.set_cons_zero, List.set_cons_succ]; exact rfl) ?_
  refine walk_nil ?_
  refine dwp_seq ?_
  refine dwp_draw [([], []), ([], []), ([], []), ([5], []), ([7], []), ([2], [2]), ([3], [3]), ([4], [4])] mixed (by kernel_rfl) ?_
  refine lex_r rfl rfl (op_move (.inl rfl) (ev1 rfl)) ?_
  refine lex_r rfl rfl (op_nc rfl (ev1 rfl) (fun s v h => by cases h; exact ⟨_, rfl⟩)) ?_
  refine lex_r rfl rfl (op_fa rfl fo76_0 (ev1 rfl)) ?_
  refine lex_r rfl rfl (op_ldmw rfl tb25 (ev1 rfl) rfl rfl) ?_
  refine lex_r rfl rfl (op_ldw rfl tb38 (ev1 rfl) rfl rfl) ?_
  refine lex_s rfl rfl (op_stam rfl tb25 (ev1 rfl) (ev1 rfl) rfl rfl rfl rfl) rfl (by simp only [upd, List.set_cons_zero, List.set_cons_succ]; exact rfl) ?_
  refine lex_s rfl rfl (op_stwa rfl tb38 (ev1 rfl) (ev1 rfl) rfl rfl rfl rfl) rfl (by simp only [upd, List.set_cons_zero, List.set_cons_succ]; exact rfl) ?_
  refine lex_s rfl rfl (op_stwi rfl tb30 (ev1 rfl) (ev1 rfl) rfl) rfl (by simp only [upd, List.set_cons_zero, List.set_cons_succ]; exact rfl) ?_
  refine lex_nil ?_
  refine dwp_ret ?_
  refine kdef (dturn_idle [4] [] rfl rfl (dof_idle _) rfl rfl rfl rfl rfl) ?_
  refine kend [6] (rs3 rfl (rv_mw tb25 rfl rfl rfl) (rv_w tb38 rfl rfl rfl) (rv_1 tb30 rfl rfl rfl)) rfl rfl ?_ ⟨?_, trivial⟩
  rfl
  all_goals first | exact rfl | exact arxr_fits rfl rfl (fl_nl _) | exact arxr_fits (by simp) rfl (fl_nl _)

set_option maxRecDepth 4000 in
set_option maxHeartbeats 1000000 in
theorem Do_there (P : List Par) (L : Nat) (bt mk : Int) (j : Nat) (h : j < P.length) (hN : netB P (L : Int) = true) (hsp : P[j].sp = true) : DFun Try.prog 21 [.agg [.slm 3 (P).length ((P).flatMap pD), .val (.int .u64 (L : Int))], .val (.agg #[.int .i64 4, .int .i64 (j : Int), .int .i64 bt, .int .u32 mk])] [] (.tup [.val (.agg #[.slice none 0 0, .int .u64 0]), .val (.agg #[.int .i64 0, .slice none 0 0, .bool false]), .val (.int .i64 5)]) [] := by
  refine dcalls_body (N := 20) 0 (by kernel_rfl) Try.func21 rfl rfl rfl (by simp only [fr0, Nat.zero_add, Nat.reduceAdd]; exact rfl) rfl fun s0 hs0 => ?_
  refine dbody_seq rfl hs0 ?_
  refine dwp_holes 5 (by simp only [holes, List.cons_append, List.nil_append]; exact rfl) ?_
  refine dwp_region ?_
  refine walk_w rfl rfl rfl (op_boxam 0 rfl (ev1 rfl) rfl) (by simp only [upd, List.set_cons_zero, List.set_cons_succ]; exact rfl) ?_
  refine walk_w rfl rfl rfl (op_boxa 1 rfl (ev1 rfl) rfl) (by simp only [upd, List.set_cons_zero, List.set_cons_succ]; exact rfl) ?_
  refine walk_w rfl rfl rfl (op_alloc 2 rfl zr25 rfl) (by simp only [upd, List.set_cons_zero, List.set_cons_succ]; exact rfl) ?_
  refine walk_w rfl rfl rfl (op_alloc 3 rfl zr38 rfl) (by simp only [upd, List.set_cons_zero, List.set_cons_succ]; exact rfl) ?_
  refine walk_w rfl rfl rfl (op_alloc 4 rfl zr30 rfl) (by simp only [upd, List.set_cons_zero, List.set_cons_succ]; exact rfl) ?_
  refine walk_nil ?_
  refine dbody_defer (l0 := [_]) rfl rfl rfl rfl rfl hs0 ?_
  refine walk_r rfl rfl rfl (op_mkf rfl en (ec (ev1 rfl) en)) ?_
  refine walk_nil ⟨_, _, _, 5, ev1 rfl, Nat.le_trans hs0 (by decide), rfl, ?_⟩
  have hs1 : s0.M.length ≤ 5 := Nat.le_trans hs0 (by decide)
  refine dbody_end rfl hs0 ?_
  refine dwp_seq ?_
  refine dwp_holes 2 (by simp only [holes, List.cons_append, List.nil_append]; exact rfl) ?_
  refine dwp_region ?_
  refine walk_r rfl rfl rfl (op_ldmw rfl tb25 (ev1 rfl) rfl rfl) ?_
  refine walk_w rfl rfl rfl (dop_call [] [] [5, 6] rfl (ev1 rfl) (ec (ev1 rfl) en) rfl rfl (chof_o P _ hN) rfl rfl rfl (by exact (wrc rfl (wrc (by first | exact rfl | exact sb_arx (fun _ => rfl) | exact sb_arxr (nlL_flatR (fun _ => rfl) _) | exact sb_arxg (fun _ => rfl) | exact sb_arxs (fun _ => rfl)) rfl))) rfl rfl) (by simp only [upd, List.set_cons_zero, List.set_cons_succ]; exact rfl) ?_
  refine walk_r rfl rfl rfl (op_move (.inr rfl) (ev1 rfl)) ?_
  refine walk_nil ?_
  refine dwp_seq ?_
  refine dwp_holes 1 (by simp only [holes, List.cons_append, List.nil_append]; exact rfl) ?_
  refine dwp_region ?_
  refine walk_r rfl rfl rfl (op_move (.inl rfl) (ev1 rfl)) ?_
  refine walk_r rfl rfl rfl (op_ldw rfl tb49 (ev1 rfl) rfl rfl) ?_
  refine walk_p rfl (dop_callP [5, 6] [] [] rfl (ev1 rfl) (ec (ev1 rfl) (ec (ev1 rfl) en)) rfl (by exact mfits _ _ ⟨rfl, (by first | exact rfl | exact arx_fits rfl rfl (vwL_flat (fun _ => rfl) _) | exact arxr_fits rfl rfl (nlL_flatR (fun _ => rfl) _) | exact arxg_fits rfl rfl (fun _ => rfl) | exact arxs_fits rfl rfl (fun _ => rfl)), trivial⟩) (do_there P L bt mk j h hsp) rfl rfl rfl (by exact (wrc rfl (wrc (by first | exact rfl | exact sb_arx (fun _ => rfl) | exact sb_arxr (nlL_flatR (fun _ => rfl) _) | exact sb_arxg (fun _ => rfl) | exact sb_arxs (fun _ => rfl)) rfl))) rfl rfl) rfl ?_
  refine kdef (dturn_caught [4] [] rfl rfl rfl (dof_caught _ _) rfl rfl rfl rfl rfl) ?_
  refine kend0 (rs3 rfl (rv_w tb25 rfl rfl rfl) (rv_w tb38 rfl rfl rfl) (rv_1 tb30 rfl rfl rfl)) rfl ?_
  rfl

set_option maxRecDepth 4000 in
set_option maxHeartbeats 1000000 in
theorem Do_no (P : List Par) (L : Nat) (bit mask : Nat) (j : Nat) (h : j < P.length) (hN : netB P (L : Int) = true) (hsp : P[j].sp = false) (hm : mask < 2 ^ 32) (hb : bit < 8 * P[j].b.length) (hl : P[j].b.length ≤ 1000000) (hn : ∀ x ∈ P[j].b, x < 256) (h0 : ∀ k, k < P[j].b.length → ((mask <<< bit) >>> (8 * k)) % 256 = 0) : DFun Try.prog 21 [.agg [.slm 3 (P).length ((P).flatMap pD), .val (.int .u64 (L : Int))], .val (.agg #[.int .i64 4, .int .i64 (j : Int), .int .i64 (bit : Int), .int .u32 (mask : Int)])] [] (.tup [.val (.agg #[.slice none 0 0, .int .u64 0]), .val (.agg #[.int .i64 0, .slice none 0 0, .bool false]), .val (.int .i64 2)]) [] := by
  refine dcalls_body (N := 20) 0 (by kernel_rfl) Try.func21 rfl rfl rfl (by simp only [fr0, Nat.zero_add, Nat.reduceAdd]; exact rfl) rfl fun s0 hs0 => ?_
  refine dbody_seq rfl hs0 ?_
  refine dwp_holes 5 (by simp only [holes, List.cons_append, List.nil_append]; exact rfl) ?_
  refine dwp_region ?_
  refine walk_w rfl rfl rfl (op_boxam 0 rfl (ev1 rfl) rfl) (by simp only [upd, List.set_cons_zero, List.set_cons_succ]; exact rfl) ?_
  refine walk_w rfl rfl rfl (op_boxa 1 rfl (ev1 rfl) rfl) (by simp only [upd, List.set_cons_zero, List.set_cons_succ]; exact rfl) ?_
  refine walk_w rfl rfl rfl (op_alloc 2 rfl zr25 rfl) (by simp only [upd, List.set_cons_zero, List.set_cons_succ]; exact rfl) ?_
  refine walk_w rfl rfl rfl (op_alloc 3 rfl zr38 rfl) (by simp only [upd, List.set_cons_zero, List.set_cons_succ]; exact rfl) ?_
  refine walk_w rfl rfl rfl (op_alloc 4 rfl zr30 rfl) (by simp only [upd, List.set_cons_zero, List.set_cons_succ]; exact rfl) ?_
  refine walk_nil ?_
  refine dbody_defer (l0 := [_]) rfl rfl rfl rfl rfl hs0 ?_
  refine walk_r rfl rfl rfl (op_mkf rfl en (ec (ev1 rfl) en)) ?_
  refine walk_nil ⟨_, _, _, 5, ev1 rfl, Nat.le_trans hs0 (by decide), rfl, ?_⟩
  have hs1 : s0.M.length ≤ 5 := Nat.le_trans hs0 (by decide)
  refine dbody_end rfl hs0 ?_
  refine dwp_seq ?_
  refine dwp_holes 2 (by simp only [holes, List.cons_append, List.nil_append]; exact rfl) ?_
  refine dwp_region ?_
  refine walk_r rfl rfl rfl (op_ldmw rfl tb25 (ev1 rfl) rfl rfl) ?_
  refine walk_w rfl rfl rfl (dop_call [] [] [5, 6] rfl (ev1 rfl) (ec (ev1 rfl) en) rfl rfl (chof_o P _ hN) rfl rfl rfl (by exact (wrc rfl (wrc (by first | exact rfl | exact sb_arx (fun _ => rfl) | exact sb_arxr (nlL_flatR (fun _ => rfl) _) | exact sb_arxg (fun _ => rfl) | exact sb_arxs (fun _ => rfl)) rfl))) rfl rfl) (by simp only [upd, List.set_cons_zero, List.set_cons_succ]; exact rfl) ?_
  refine walk_r rfl rfl rfl (op_move (.inr rfl) (ev1 rfl)) ?_
  refine walk_nil ?_
  refine dwp_seq ?_
  refine dwp_holes 1 (by simp only [holes, List.cons_append, List.nil_append]; exact rfl) ?_
  refine dwp_region ?_
  refine walk_r rfl rfl rfl (op_move (.inl rfl) (ev1 rfl)) ?_
  refine walk_r rfl rfl rfl (op_ldw rfl tb49 (ev1 rfl) rfl rfl) ?_
  refine walk_p rfl (dop_callP [5, 6] [] [] rfl (ev1 rfl) (ec (ev1 rfl) (ec (ev1 rfl) en)) rfl (by exact mfits _ _ ⟨rfl, (by first | exact rfl | exact arx_fits rfl rfl (vwL_flat (fun _ => rfl) _) | exact arxr_fits rfl rfl (nlL_flatR (fun _ => rfl) _) | exact arxg_fits rfl rfl (fun _ => rfl) | exact arxs_fits rfl rfl (fun _ => rfl)), trivial⟩) (do_no P L bit mask j h hsp hm hb hl hn h0) rfl rfl rfl (by exact (wrc rfl (wrc (by first | exact rfl | exact sb_arx (fun _ => rfl) | exact sb_arxr (nlL_flatR (fun _ => rfl) _) | exact sb_arxg (fun _ => rfl) | exact sb_arxs (fun _ => rfl)) rfl))) rfl rfl) rfl ?_
  refine kdef (dturn_caught [4] [] rfl rfl rfl (dof_caught _ _) rfl rfl rfl rfl rfl) ?_
  refine kend0 (rs3 rfl (rv_w tb25 rfl rfl rfl) (rv_w tb38 rfl rfl rfl) (rv_1 tb30 rfl rfl rfl)) rfl ?_
  rfl

set_option maxRecDepth 4000 in
set_option maxHeartbeats 1000000 in
theorem Do_out (P : List Par) (L : Nat) (bt : Int) (mask : Nat) (j : Nat) (h : j < P.length) (hsp : P[j].sp = false) (hbm : bt ≤ 9223372036854775807) (hout : bt < 0 ∨ 8 * (P[j].b.length : Int) ≤ bt) (hN : netB P (L : Int) = true) : DFun Try.prog 21 [.agg [.slm 3 (P).length ((P).flatMap pD), .val (.int .u64 (L : Int))], .val (.agg #[.int .i64 4, .int .i64 (j : Int), .int .i64 bt, .int .u32 (mask : Int)])] [] (.tup [.val (.agg #[.slice none 0 0, .int .u64 0]), .val (.agg #[.int .i64 0, .slice none 0 0, .bool false]), .val (.int .i64 2)]) [] := by
  refine dcalls_body (N := 20) 0 (by kernel_rfl) Try.func21 rfl rfl rfl (by simp only [fr0, Nat.zero_add, Nat.reduceAdd]; exact rfl) rfl fun s0 hs0 => ?_
  refine dbody_seq rfl hs0 ?_
  refine dwp_holes 5 (by simp only [holes, List.cons_append, List.nil_append]; exact rfl) ?_
  refine dwp_region ?_
  refine walk_w rfl rfl rfl (op_boxam 0 rfl (ev1 rfl) rfl) (by simp only [upd, List.set_cons_zero, List.set_cons_succ]; exact rfl) ?_
  refine walk_w rfl rfl rfl (op_boxa 1 rfl (ev1 rfl) rfl) (by simp only [upd, List.set_cons_zero, List.set_cons_succ]; exact rfl) ?_
  refine walk_w rfl rfl rfl (op_alloc 2 rfl zr25 rfl) (by simp only [upd, List.set_cons_zero, List.set_cons_succ]; exact rfl) ?_
  refine walk_w rfl rfl rfl (op_alloc 3 rfl zr38 rfl) (by simp only [upd, List.set_cons_zero, List.set_cons_succ]; exact rfl) ?_
  refine walk_w rfl rfl rfl (op_alloc 4 rfl zr30 rfl) (by simp only [upd, List.set_cons_zero, List.set_cons_succ]; exact rfl) ?_
  refine walk_nil ?_
  refine dbody_defer (l0 := [_]) rfl rfl rfl rfl rfl hs0 ?_
  refine walk_r rfl rfl rfl (op_mkf rfl en (ec (ev1 rfl) en)) ?_
  refine walk_nil ⟨_, _, _, 5, ev1 rfl, Nat.le_trans hs0 (by decide), rfl, ?_⟩
  have hs1 : s0.M.length ≤ 5 := Nat.le_trans hs0 (by decide)
  refine dbody_end rfl hs0 ?_
  refine dwp_seq ?_
  refine dwp_holes 2 (by simp only [holes, List.cons_append, List.nil_append]; exact rfl) ?_
  refine dwp_region ?_
  refine walk_r rfl rfl rfl (op_ldmw rfl tb25 (ev1 rfl) rfl rfl) ?_
  refine walk_w rfl rfl rfl (dop_call [] [] [5, 6] rfl (ev1 rfl) (ec (ev1 rfl) en) rfl rfl (chof_o P _ hN) rfl rfl rfl (by exact (wrc rfl (wrc (by first | exact rfl | exact sb_arx (fun _ => rfl) | exact sb_arxr (nlL_flatR (fun _ => rfl) _) | exact sb_arxg (fun _ => rfl) | exact sb_arxs (fun _ => rfl)) rfl))) rfl rfl) (by simp only [upd, List.set_cons_zero, List.set_cons_succ]; exact rfl) ?_
  refine walk_r rfl rfl rfl (op_move (.inr rfl) (ev1 rfl)) ?_
  refine walk_nil ?_
  refine dwp_seq ?_
  refine dwp_holes 1 (by simp only [holes, List.cons_append, List.nil_append]; exact rfl) ?_
  refine dwp_region ?_
  refine walk_r rfl rfl rfl (op_move (.inl rfl) (ev1 rfl)) ?_
  refine walk_r rfl rfl rfl (op_ldw rfl tb49 (ev1 rfl) rfl rfl) ?_
  refine walk_p rfl (dop_callP [5, 6] [] [] rfl (ev1 rfl) (ec (ev1 rfl) (ec (ev1 rfl) en)) rfl (by exact mfits _ _ ⟨rfl, (by first | exact rfl | exact arx_fits rfl rfl (vwL_flat (fun _ => rfl) _) | exact arxr_fits rfl rfl (nlL_flatR (fun _ => rfl) _) | exact arxg_fits rfl rfl (fun _ => rfl) | exact arxs_fits rfl rfl (fun _ => rfl)), trivial⟩) (do_out P L bt mask j h hsp hbm hout) rfl rfl rfl (by exact (wrc rfl (wrc (by first | exact rfl | exact sb_arx (fun _ => rfl) | exact sb_arxr (nlL_flatR (fun _ => rfl) _) | exact sb_arxg (fun _ => rfl) | exact sb_arxs (fun _ => rfl)) rfl))) rfl rfl) rfl ?_
  refine kdef (dturn_caught [4] [] rfl rfl rfl (dof_caught _ _) rfl rfl rfl rfl rfl) ?_
  refine kend0 (rs3 rfl (rv_w tb25 rfl rfl rfl) (rv_w tb38 rfl rfl rfl) (rv_1 tb30 rfl rfl rfl)) rfl ?_
  rfl

set_option maxRecDepth 4000 in
set_option maxHeartbeats 1000000 in
theorem Do_kind (P : List Par) (L : Nat) (kd at_ bt mk : Int) (hN : netB P (L : Int) = true) (hk : kd < 1 ∨ 4 < kd) : DFun Try.prog 21 [.agg [.slm 3 (P).length ((P).flatMap pD), .val (.int .u64 (L : Int))], .val (.agg #[.int .i64 kd, .int .i64 at_, .int .i64 bt, .int .u32 mk])] [] (.tup [.val (.agg #[.slice none 0 0, .int .u64 0]), .val (.agg #[.int .i64 0, .slice none 0 0, .bool false]), .val (.int .i64 2)]) [] := by
  refine dcalls_body (N := 20) 0 (by kernel_rfl) Try.func21 rfl rfl rfl (by simp only [fr0, Nat.zero_add, Nat.reduceAdd]; exact rfl) rfl fun s0 hs0 => ?_
  refine dbody_seq rfl hs0 ?_
  refine dwp_holes 5 (by simp only [holes, List.cons_append, List.nil_append]; exact rfl) ?_
  refine dwp_region ?_
  refine walk_w rfl rfl rfl (op_boxam 0 rfl (ev1 rfl) rfl) (by simp only [upd, List.set_cons_zero, List.set_cons_succ]; exact rfl) ?_
  refine walk_w rfl rfl rfl (op_boxa 1 rfl (ev1 rfl) rfl) (by simp only [upd, List.set_cons_zero, List.set_cons_succ]; exact rfl) ?_
  refine walk_w rfl rfl rfl (op_alloc 2 rfl zr25 rfl) (by simp only [upd, List.set_cons_zero, List.set_cons_succ]; exact rfl) ?_
  refine walk_w rfl rfl rfl (op_alloc 3 rfl zr38 rfl) (by simp only [upd, List.set_cons_zero, List.set_cons_succ]; exact rfl) ?_
  refine walk_w rfl rfl rfl (op_alloc 4 rfl zr30 rfl) (by simp only [upd, List.set_cons_zero, List.set_cons_succ]; exact rfl) ?_
  refine walk_nil ?_
  refine dbody_defer (l0 := [_]) rfl rfl rfl rfl rfl hs0 ?_
  refine walk_r rfl rfl rfl (op_mkf rfl en (ec (ev1 rfl) en)) ?_
  refine walk_nil ⟨_, _, _, 5, ev1 rfl, Nat.le_trans hs0 (by decide), rfl, ?_⟩
  have hs1 : s0.M.length ≤ 5 := Nat.le_trans hs0 (by decide)
  refine dbody_end rfl hs0 ?_
  refine dwp_seq ?_
  refine dwp_holes 2 (by simp only [holes, List.cons_append, List.nil_append]; exact rfl) ?_
  refine dwp_region ?_
  refine walk_r rfl rfl rfl (op_ldmw rfl tb25 (ev1 rfl) rfl rfl) ?_
  refine walk_w rfl rfl rfl (dop_call [] [] [5, 6] rfl (ev1 rfl) (ec (ev1 rfl) en) rfl rfl (chof_o P _ hN) rfl rfl rfl (by exact (wrc rfl (wrc (by first | exact rfl | exact sb_arx (fun _ => rfl) | exact sb_arxr (nlL_flatR (fun _ => rfl) _) | exact sb_arxg (fun _ => rfl) | exact sb_arxs (fun _ => rfl)) rfl))) rfl rfl) (by simp only [upd, List.set_cons_zero, List.set_cons_succ]; exact rfl) ?_
  refine walk_r rfl rfl rfl (op_move (.inr rfl) (ev1 rfl)) ?_
  refine walk_nil ?_
  refine dwp_seq ?_
  refine dwp_holes 1 (by simp only [holes, List.cons_append, List.nil_append]; exact rfl) ?_
  refine dwp_region ?_
  refine walk_r rfl rfl rfl (op_move (.inl rfl) (ev1 rfl)) ?_
  refine walk_r rfl rfl rfl (op_ldw rfl tb49 (ev1 rfl) rfl rfl) ?_
  refine walk_p rfl (dop_callP [5, 6] [] [] rfl (ev1 rfl) (ec (ev1 rfl) (ec (ev1 rfl) en)) rfl (by exact mfits _ _ ⟨rfl, (by first | exact rfl | exact arx_fits rfl rfl (vwL_flat (fun _ => rfl) _) | exact arxr_fits rfl rfl (nlL_flatR (fun _ => rfl) _) | exact arxg_fits rfl rfl (fun _ => rfl) | exact arxs_fits rfl rfl (fun _ => rfl)), trivial⟩) (do_kind P L kd at_ bt mk hk) rfl rfl rfl (by exact (wrc rfl (wrc (by first | exact rfl | exact sb_arx (fun _ => rfl) | exact sb_arxr (nlL_flatR (fun _ => rfl) _) | exact sb_arxg (fun _ => rfl) | exact sb_arxs (fun _ => rfl)) rfl))) rfl rfl) rfl ?_
  refine kdef (dturn_caught [4] [] rfl rfl rfl (dof_caught _ _) rfl rfl rfl rfl rfl) ?_
  refine kend0 (rs3 rfl (rv_w tb25 rfl rfl rfl) (rv_w tb38 rfl rfl rfl) (rv_1 tb30 rfl rfl rfl)) rfl ?_
  rfl

set_option maxRecDepth 4000 in
set_option maxHeartbeats 1000000 in
theorem Do_at (P : List Par) (L : Nat) (kd at_ bt mk : Int) (hN : netB P (L : Int) = true) (hk : 1 ≤ kd ∧ kd ≤ 4) (ha : at_ < 0 ∨ (P.length : Int) ≤ at_) : DFun Try.prog 21 [.agg [.slm 3 (P).length ((P).flatMap pD), .val (.int .u64 (L : Int))], .val (.agg #[.int .i64 kd, .int .i64 at_, .int .i64 bt, .int .u32 mk])] [] (.tup [.val (.agg #[.slice none 0 0, .int .u64 0]), .val (.agg #[.int .i64 0, .slice none 0 0, .bool false]), .val (.int .i64 4)]) [] := by
  refine dcalls_body (N := 20) 0 (by kernel_rfl) Try.func21 rfl rfl rfl (by simp only [fr0, Nat.zero_add, Nat.reduceAdd]; exact rfl) rfl fun s0 hs0 => ?_
  refine dbody_seq rfl hs0 ?_
  refine dwp_holes 5 (by simp only [holes, List.cons_append, List.nil_append]; exact rfl) ?_
  refine dwp_region ?_
  refine walk_w rfl rfl rfl (op_boxam 0 rfl (ev1 rfl) rfl) (by simp only [upd, List.set_cons_zero, List.set_cons_succ]; exact rfl) ?_
  refine walk_w rfl rfl rfl (op_boxa 1 rfl (ev1 rfl) rfl) (by simp only [upd, List.set_cons_zero, List.set_cons_succ]; exact rfl) ?_
  refine walk_w rfl rfl rfl (op_alloc 2 rfl zr25 rfl) (by simp only [upd, List.set_cons_zero, List.set_cons_succ]; exact rfl) ?_
  refine walk_w rfl rfl rfl (op_alloc 3 rfl zr38 rfl) (by simp only [upd, List.set_cons_zero, List.set_cons_succ]; exact rfl) ?_
  refine walk_w rfl rfl rfl (op_alloc 4 rfl zr30 rfl) (by simp only [upd, List.set_cons_zero, List.set_cons_succ]; exact rfl) ?_
  refine walk_nil ?_
  refine dbody_defer (l0 := [_]) rfl rfl rfl rfl rfl hs0 ?_
  refine walk_r rfl rfl rfl (op_mkf rfl en (ec (ev1 rfl) en)) ?_
  refine walk_nil ⟨_, _, _, 5, ev1 rfl, Nat.le_trans hs0 (by decide), rfl, ?_⟩
  have hs1 : s0.M.length ≤ 5 := Nat.le_trans hs0 (by decide)
  refine dbody_end rfl hs0 ?_
  refine dwp_seq ?_
  refine dwp_holes 2 (by simp only [holes, List.cons_append, List.nil_append]; exact rfl) ?_
  refine dwp_region ?_
  refine walk_r rfl rfl rfl (op_ldmw rfl tb25 (ev1 rfl) rfl rfl) ?_
  refine walk_w rfl rfl rfl (dop_call [] [] [5, 6] rfl (ev1 rfl) (ec (ev1 rfl) en) rfl rfl (chof_o P _ hN) rfl rfl rfl (by exact (wrc rfl (wrc (by first | exact rfl | exact sb_arx (fun _ => rfl) | exact sb_arxr (nlL_flatR (fun _ => rfl) _) | exact sb_arxg (fun _ => rfl) | exact sb_arxs (fun _ => rfl)) rfl))) rfl rfl) (by simp only [upd, List.set_cons_zero, List.set_cons_succ]; exact rfl) ?_
  refine walk_r rfl rfl rfl (op_move (.inr rfl) (ev1 rfl)) ?_
  refine walk_nil ?_
  refine dwp_seq ?_
  refine dwp_holes 1 (by simp only [holes, List.cons_append, List.nil_append]; exact rfl) ?_
  refine dwp_region ?_
  refine walk_r rfl rfl rfl (op_move (.inl rfl) (ev1 rfl)) ?_
  refine walk_r rfl rfl rfl (op_ldw rfl tb49 (ev1 rfl) rfl rfl) ?_
  refine walk_p rfl (dop_callP [5, 6] [] [] rfl (ev1 rfl) (ec (ev1 rfl) (ec (ev1 rfl) en)) rfl (by exact mfits _ _ ⟨rfl, (by first | exact rfl | exact arx_fits rfl rfl (vwL_flat (fun _ => rfl) _) | exact arxr_fits rfl rfl (nlL_flatR (fun _ => rfl) _) | exact arxg_fits rfl rfl (fun _ => rfl) | exact arxs_fits rfl rfl (fun _ => rfl)), trivial⟩) (do_at P L kd at_ bt mk hk ha) rfl rfl rfl (by exact (wrc rfl (wrc (by first | exact rfl | exact sb_arx (fun _ => rfl) | exact sb_arxr (nlL_flatR (fun _ => rfl) _) | exact sb_arxg (fun _ => rfl) | exact sb_arxs (fun _ => rfl)) rfl))) rfl rfl) rfl ?_
  refine kdef (dturn_caught [4] [] rfl rfl rfl (dof_caught _ _) rfl rfl rfl rfl rfl) ?_
  refine kend0 (rs3 rfl (rv_w tb25 rfl rfl rfl) (rv_w tb38 rfl rfl rfl) (rv_1 tb30 rfl rfl rfl)) rfl ?_
  rfl

def sndP (P l : List Par) (k : Nat) : List Par := (P ++ l.take k).take 64
def sndL (P : List Par) (L k : Nat) : Nat := L + (P.length + k - 64)
theorem sndP_0 {P : List Par} (l : List Par) (h : P.length ≤ 64) : sndP P l 0 = P := by
  unfold sndP
  rw [List.take_zero, List.append_nil, List.take_of_length_le h]
theorem sndL_0 {P : List Par} (L : Nat) (h : P.length ≤ 64) : sndL P L 0 = L := by unfold sndL; omega
theorem sndP_len {P l : List Par} {k : Nat} (h : k ≤ l.length) : (sndP P l k).length = min 64 (P.length + k) := by
  unfold sndP
  rw [List.length_take, List.length_append, List.length_take]; omega
theorem sndP_room {P l : List Par} {k : Nat} (hk : k < l.length) (h : (sndP P l k).length < 64) : sndP P l (k + 1) = sndP P l k ++ [l[k]] := by
  rw [sndP_len (by omega)] at h
  unfold sndP
  have e1 : (P ++ l.take k).take 64 = P ++ l.take k := List.take_of_length_le (by rw [List.length_append, List.length_take]; omega)
  have e2 : (P ++ l.take (k + 1)).take 64 = P ++ l.take (k + 1) := List.take_of_length_le (by rw [List.length_append, List.length_take]; omega)
  rw [e1, e2, List.take_succ_eq_append_getElem hk, List.append_assoc]
theorem sndP_full {P l : List Par} {k : Nat} (hk : k < l.length) (h : 64 ≤ (sndP P l k).length) : sndP P l (k + 1) = sndP P l k := by
  rw [sndP_len (by omega)] at h
  unfold sndP
  rw [List.take_succ_eq_append_getElem hk, ← List.append_assoc, List.take_append_of_le_length (by rw [List.length_append, List.length_take]; omega)]
theorem sndL_room {P l : List Par} {L k : Nat} (hk : k < l.length) (h : (sndP P l k).length < 64) : sndL P L (k + 1) = sndL P L k := by
  rw [sndP_len (by omega)] at h
  unfold sndL; omega
theorem sndL_full {P l : List Par} {L k : Nat} (hk : k < l.length) (h : 64 ≤ (sndP P l k).length) : sndL P L (k + 1) = sndL P L k + 1 := by
  rw [sndP_len (by omega)] at h
  unfold sndL; omega
theorem all_at {P : List Par} (h : (P.all fun p => (mayB p && !p.sp)) = true) {k : Nat} (hk : k < P.length) : P[k].b.length ≤ 2000000 := by
  have h1 := List.all_eq_true.1 h _ (List.getElem_mem hk)
  rw [Bool.and_eq_true] at h1
  have := may_len h1.1
  omega

set_option maxRecDepth 4000 in
set_option maxHeartbeats 1000000 in
theorem Send_o (P l : List Par) (L : Nat) (hN : netB P (L : Int) = true) (hl : l.length ≤ 1000) (hL : L ≤ 1000000) (ha : (l.all fun p => (mayB p && !p.sp)) = true) : DFun Try.prog 16 [.agg [.slm 3 (P).length ((P).flatMap pD), .val (.int .u64 (L : Int))], .slm 3 (l).length ((l).flatMap pD)] [] (.tup [.agg [.arr 0, .val (.int .u64 ((sndL P L l.length : Nat) : Int))], .val (.int .i64 0)]) [.arx 38 3 ((sndP P l l.length)).length (((sndP P l l.length)).flatMap pD)] := by
  refine dcalls_body (N := 29) 0 (by kernel_rfl) Try.func16 rfl rfl rfl (by simp only [fr0, Nat.zero_add, Nat.reduceAdd]; exact rfl) rfl fun s0 hs0 => ?_
  refine dbody_seq rfl hs0 ?_
  refine dwp_holes 3 (by simp only [holes, List.cons_append, List.nil_append]; exact rfl) ?_
  refine dwp_region ?_
  refine walk_w rfl rfl rfl (op_boxam 0 rfl (ev1 rfl) rfl) (by simp only [upd, List.set_cons_zero, List.set_cons_succ]; exact rfl) ?_
  refine walk_w rfl rfl rfl (op_alloc 1 rfl zr25 rfl) (by simp only [upd, List.set_cons_zero, List.set_cons_succ]; exact rfl) ?_
  refine walk_w rfl rfl rfl (op_alloc 2 rfl zr30 rfl) (by simp only [upd, List.set_cons_zero, List.set_cons_succ]; exact rfl) ?_
  refine walk_nil ?_
  refine dbody_defer (l0 := [_]) rfl rfl rfl rfl rfl hs0 ?_
  refine walk_r rfl rfl rfl (op_mkf rfl en (ec (ev1 rfl) en)) ?_
  refine walk_nil ⟨_, _, _, 3, ev1 rfl, Nat.le_trans hs0 (by decide), rfl, ?_⟩
  have hs1 : s0.M.length ≤ 3 := Nat.le_trans hs0 (by decide)
  refine dbody_end rfl hs0 ?_
  refine dwp_seq ?_
  refine dwp_holes 2 (by simp only [holes, List.cons_append, List.nil_append]; exact rfl) ?_
  refine dwp_region ?_
  refine walk_r rfl rfl rfl (op_ldmw rfl tb25 (ev1 rfl) rfl rfl) ?_
  refine walk_w rfl rfl rfl (dop_call [] [] [3, 4] rfl (ev1 rfl) (ec (ev1 rfl) en) rfl rfl (chof_o P _ hN) rfl rfl rfl (by exact (wrc rfl (wrc (by first | exact rfl | exact sb_arx (fun _ => rfl) | exact sb_arxr (nlL_flatR (fun _ => rfl) _) | exact sb_arxg (fun _ => rfl) | exact sb_arxs (fun _ => rfl)) rfl))) rfl rfl) (by simp only [upd, List.set_cons_zero, List.set_cons_succ]; exact rfl) ?_
  refine walk_r rfl rfl rfl (op_move (.inr rfl) (ev1 rfl)) ?_
  refine walk_nil ?_
  refine dwp_seq ?_
  refine dwp_region ?_
  refine walk_r rfl rfl rfl (op_move (.inl rfl) (ev1 rfl)) ?_
  refine walk_r rfl rfl rfl (dop_call [] [] [] rfl (ev1 rfl) (ec (ev1 rfl) (ec (ev1 rfl) en)) rfl rfl (all_s l) rfl rfl rfl rfl rfl rfl) ?_
  refine walk_r rfl rfl rfl (dop_call [] [] [] rfl (ev1 rfl) (ec (ev1 rfl) (ec (ev1 rfl) en)) rfl rfl (need_ok _ _ (ha)) rfl rfl rfl rfl rfl rfl) ?_
  refine walk_nil ?_
  refine dwp_seq ?_
  refine dwp_seq ?_
  obtain ⟨hle, _⟩ := net_le hN
  refine dwp_region ?_
  refine walk_r rfl rfl rfl (op_move (.inl rfl) (ev1 rfl)) ?_
  refine walk_r rfl rfl rfl (op_lenm rfl sl22 (ev1 rfl)) ?_
  refine walk_r rfl rfl rfl (op_move (.inl rfl) (ev1 rfl)) ?_
  refine walk_nil ?_
  refine dwp_block ?_
  refine dwp_loopS ⟨hs1, rfl⟩ (α := Nat) (fun k => [(17, .val (.int .i64 (k : Int)))]) [(4, _), (5, _), (6, _), (15, _), (16, _)] (fun k => [(3, .mix 76 [.arr 4, .val (.int .u64 ((sndL P L k : Nat) : Int))]), (4, .arx 38 3 ((sndP P l k)).length (((sndP P l k)).flatMap pD))]) [_, _, _, .hole, .hole] (fun k => k ≤ l.length) (fun k => l.length - k) 0 [0, 1, 2, 3, 4] (by simp) rfl ⟨rfl, rfl, rfl, rfl, rfl, trivial⟩ ⟨rfl, trivial⟩ ⟨rfl, rfl, rfl, by rw [sndL_0 L hle]; rfl, arxr_fits (by rw [sndP_0 l hle]) (by rw [sndP_0 l hle]) (fl_nl _), trivial⟩ ?_
  intro k hx
  simp only [upd, List.set_cons_zero, List.set_cons_succ, List.cons_append, List.nil_append]
  have hk := hx
  refine dwp_seq ?_
  refine dwp_region ?_
  refine walk_r rfl rfl rfl (op_lss rfl (ev1 rfl) (ev1 rfl)) ?_
  refine walk_nil ?_
  refine dwp_seq ?_
  refine dwp_cond rfl (fun c1 => ?_) (fun c1 => ?_)
  · try simp only [decide_eq_true_eq, decide_eq_false_iff_not, beq_iff_eq, bne_iff_ne, beq_eq_false_iff_ne, bne_eq_false_iff_eq, Bool.not_eq_true', Bool.not_eq_false', Bool.and_eq_true, Bool.or_eq_true, Bool.or_eq_false_iff, ne_eq, Decidable.not_not, Int.not_lt, Int.not_le] at c1
    refine dwp_skip ?_
    refine dwp_seq ?_
    refine dwp_block ?_
    refine dwp_seq ?_
    refine dwp_holes 1 (by simp only [holes, List.cons_append, List.nil_append]; exact rfl) ?_
    refine dwp_region ?_
    refine walk_r rfl rfl rfl (op_ixmr (k) (by decide) rfl sl22 (ev1 rfl) (ev1 rfl) (fun _ => rfl) (by omega) (fun _ => rfl)) ?_
    refine walk_r rfl rfl rfl (op_lddr rfl tb38 (ev1 rfl) rfl rfl) ?_
    refine walk_w rfl rfl rfl (op_alloc 5 rfl zr38 rfl) (by simp only [upd, List.set_cons_zero, List.set_cons_succ]; exact rfl) ?_
    refine walk_s rfl rfl (op_stam rfl tb38 (ev1 rfl) (ev1 rfl) rfl rfl rfl rfl) (by simp only [upd, List.set_cons_zero, List.set_cons_succ]; exact rfl) ?_
    refine walk_nil ?_
    by_cases hr : (sndP P l k).length < 64
    · have hkl : k < l.length := by omega
      refine dwp_holes 1 (by simp only [holes, List.cons_append, List.nil_append]; exact rfl) ?_
      refine dwp_region ?_
      refine walk_r rfl rfl rfl (op_move (.inl rfl) (ev1 rfl)) ?_
      refine walk_r rfl rfl rfl (op_ldmw rfl tb38 (ev1 rfl) rfl rfl) ?_
      refine walk_w rfl rfl rfl (dop_call [3, 4] [] [6] rfl (ev1 rfl) (ec (ev1 rfl) (ec (ev1 rfl) en)) rfl (by exact mfits _ _ ⟨rfl, (by first | exact rfl | exact arx_fits rfl rfl (vwL_flat (fun _ => rfl) _) | exact arxr_fits rfl rfl (nlL_flatR (fun _ => rfl) _) | exact arxg_fits rfl rfl (fun _ => rfl) | exact arxs_fits rfl rfl (fun _ => rfl)), trivial⟩) (send_o (sndP P l k) (sndL P L k) l[k] hr (all_at ha hkl)) rfl rfl rfl (by exact (wrc rfl (wrc rfl (wrc (by first | exact rfl | exact sb_arx (fun _ => rfl) | exact sb_arxr (nlL_flatR (fun _ => rfl) _) | exact sb_arxg (fun _ => rfl) | exact sb_arxs (fun _ => rfl)) rfl)))) rfl rfl) (by simp only [upd, List.set_cons_zero, List.set_cons_succ]; exact rfl) ?_
      refine walk_nil ?_
      refine dwp_region ?_
      refine walk_r rfl rfl rfl (op_add' rfl (ev1 rfl) (ev1 rfl) (fun _ => IntWalk.i64_in _ (by omega))) ?_
      refine walk_r rfl rfl rfl (op_move (.inl rfl) (ev1 rfl)) ?_
      refine walk_nil ?_
      refine ⟨k + 1, [0, 1, 2, 3, 6], by omega, by simp only []; omega, rfl, ⟨rfl, rfl, rfl, rfl, rfl, rfl, trivial⟩, ⟨rfl, rfl, rfl, by rw [sndL_room hkl hr]; rfl, arxr_fits (by rw [sndP_room hkl hr]) (by rw [sndP_room hkl hr]) (fl_nl _), trivial⟩⟩
    · have hkl : k < l.length := by omega
      have hLk : sndL P L k ≤ L + (P.length + k) := by unfold sndL; omega
      refine dwp_region ?_
      refine walk_r rfl rfl rfl (op_move (.inl rfl) (ev1 rfl)) ?_
      refine walk_r rfl rfl rfl (op_ldmw rfl tb38 (ev1 rfl) rfl rfl) ?_
      refine walk_w rfl rfl rfl (dop_call [3, 4] [] [] rfl (ev1 rfl) (ec (ev1 rfl) (ec (ev1 rfl) en)) rfl (by exact mfits _ _ ⟨rfl, (by first | exact rfl | exact arx_fits rfl rfl (vwL_flat (fun _ => rfl) _) | exact arxr_fits rfl rfl (nlL_flatR (fun _ => rfl) _) | exact arxg_fits rfl rfl (fun _ => rfl) | exact arxs_fits rfl rfl (fun _ => rfl)), trivial⟩) (send_full (sndP P l k) (sndL P L k) l[k] (by omega) (by omega)) rfl rfl rfl (by exact (wrc rfl (wrc (by first | exact rfl | exact sb_arx (fun _ => rfl) | exact sb_arxr (nlL_flatR (fun _ => rfl) _) | exact sb_arxg (fun _ => rfl) | exact sb_arxs (fun _ => rfl)) rfl))) rfl rfl) (by simp only [upd, List.set_cons_zero, List.set_cons_succ]; exact rfl) ?_
      refine walk_nil ?_
      refine dwp_region ?_
      refine walk_r rfl rfl rfl (op_add' rfl (ev1 rfl) (ev1 rfl) (fun _ => IntWalk.i64_in _ (by omega))) ?_
      refine walk_r rfl rfl rfl (op_move (.inl rfl) (ev1 rfl)) ?_
      refine walk_nil ?_
      refine ⟨k + 1, [0, 1, 2, 3, 4], by omega, by simp only []; omega, rfl, ⟨rfl, rfl, rfl, rfl, rfl, rfl, trivial⟩, ⟨rfl, rfl, rfl, by rw [sndL_full hkl (by omega)]; rfl, arxr_fits (by rw [sndP_full hkl (by omega)]) (by rw [sndP_full hkl (by omega)]) (fl_nl _), trivial⟩⟩
  · try simp only [decide_eq_true_eq, decide_eq_false_iff_not, beq_iff_eq, bne_iff_ne, beq_eq_false_iff_ne, bne_eq_false_iff_eq, Bool.not_eq_true', Bool.not_eq_false', Bool.and_eq_true, Bool.or_eq_true, Bool.or_eq_false_iff, ne_eq, Decidable.not_not, Int.not_lt, Int.not_le] at c1
    refine dwp_exit ?_
    refine dwp_seq ?_
    obtain rfl : k = l.length := by omega
    refine dwp_region ?_
    refine walk_r rfl rfl rfl (op_move (.inl rfl) (ev1 rfl)) ?_
    refine walk_r rfl rfl rfl (op_nc rfl (ev1 rfl) (fun s v h => by cases h; exact ⟨_, rfl⟩)) ?_
    refine walk_r rfl rfl rfl (op_fa rfl fo76_0 (ev1 rfl)) ?_
    refine walk_r rfl rfl rfl (op_ldmw rfl tb25 (ev1 rfl) rfl rfl) ?_
    refine walk_s rfl rfl (op_stam rfl tb25 (ev1 rfl) (ev1 rfl) rfl rfl rfl rfl) (by simp only [upd, List.set_cons_zero, List.set_cons_succ]; exact rfl) ?_
    refine walk_s rfl rfl (op_stwi rfl tb30 (ev1 rfl) (ev1 rfl) rfl) (by simp only [upd, List.set_cons_zero, List.set_cons_succ]; exact rfl) ?_
    refine walk_nil ?_
    refine dwp_ret ?_
    refine kdef (dturn_idle [2] [] rfl rfl (sendf_idle _) rfl rfl rfl rfl rfl) ?_
    refine kend [4] (rs2 rfl (rv_mw tb25 rfl rfl rfl) (rv_1 tb30 rfl rfl rfl)) rfl rfl ?_ ⟨?_, trivial⟩
    rfl
    all_goals first | exact rfl | exact arxr_fits rfl rfl (fl_nl _) | exact arxr_fits (by simp) rfl (fl_nl _)

set_option maxRecDepth 4000 in
set_option maxHeartbeats 1000000 in
theorem Send_arg (P l : List Par) (L : Nat) (hN : netB P (L : Int) = true) (ha : (l.all fun p => (mayB p && !p.sp)) = false) : DFun Try.prog 16 [.agg [.slm 3 (P).length ((P).flatMap pD), .val (.int .u64 (L : Int))], .slm 3 (l).length ((l).flatMap pD)] [] (.tup [.val (.agg #[.slice none 0 0, .int .u64 0]), .val (.int .i64 2)]) [] := by
  refine dcalls_body (N := 29) 0 (by kernel_rfl) Try.func16 rfl rfl rfl (by simp only [fr0, Nat.zero_add, Nat.reduceAdd]; exact rfl) rfl fun s0 hs0 => ?_
  refine dbody_seq rfl hs0 ?_
  refine dwp_holes 3 (by simp only [holes, List.cons_append, List.nil_append]; exact rfl) ?_
  refine dwp_region ?_
  refine walk_w rfl rfl rfl (op_boxam 0 rfl (ev1 rfl) rfl) (by simp only [upd, List.set_cons_zero, List.set_cons_succ]; exact rfl) ?_
  refine walk_w rfl rfl rfl (op_alloc 1 rfl zr25 rfl) (by simp only [upd, List.set_cons_zero, List.set_cons_succ]; exact rfl) ?_
  refine walk_w rfl rfl rfl (op_alloc 2 rfl zr30 rfl) (by simp only [upd, List.set_cons_zero, List.set_cons_succ]; exact rfl) ?_
  refine walk_nil ?_
  refine dbody_defer (l0 := [_]) rfl rfl rfl rfl rfl hs0 ?_
  refine walk_r rfl rfl rfl (op_mkf rfl en (ec (ev1 rfl) en)) ?_
  refine walk_nil ⟨_, _, _, 3, ev1 rfl, Nat.le_trans hs0 (by decide), rfl, ?_⟩
  have hs1 : s0.M.length ≤ 3 := Nat.le_trans hs0 (by decide)
  refine dbody_end rfl hs0 ?_
  refine dwp_seq ?_
  refine dwp_holes 2 (by simp only [holes, List.cons_append, List.nil_append]; exact rfl) ?_
  refine dwp_region ?_
  refine walk_r rfl rfl rfl (op_ldmw rfl tb25 (ev1 rfl) rfl rfl) ?_
  refine walk_w rfl rfl rfl (dop_call [] [] [3, 4] rfl (ev1 rfl) (ec (ev1 rfl) en) rfl rfl (chof_o P _ hN) rfl rfl rfl (by exact (wrc rfl (wrc (by first | exact rfl | exact sb_arx (fun _ => rfl) | exact sb_arxr (nlL_flatR (fun _ => rfl) _) | exact sb_arxg (fun _ => rfl) | exact sb_arxs (fun _ => rfl)) rfl))) rfl rfl) (by simp only [upd, List.set_cons_zero, List.set_cons_succ]; exact rfl) ?_
  refine walk_r rfl rfl rfl (op_move (.inr rfl) (ev1 rfl)) ?_
  refine walk_nil ?_
  refine dwp_seq ?_
  refine dwp_region ?_
  refine walk_r rfl rfl rfl (op_move (.inl rfl) (ev1 rfl)) ?_
  refine walk_r rfl rfl rfl (dop_call [] [] [] rfl (ev1 rfl) (ec (ev1 rfl) (ec (ev1 rfl) en)) rfl rfl (all_s l) rfl rfl rfl rfl rfl rfl) ?_
  refine walk_p rfl (dop_callP [] [] [] rfl (ev1 rfl) (ec (ev1 rfl) (ec (ev1 rfl) en)) rfl rfl (need_no _ _ (ha)) rfl rfl rfl rfl rfl rfl) rfl ?_
  refine kdef (dturn_caught [2] [] rfl rfl rfl (sendf_caught _ _) rfl rfl rfl rfl rfl) ?_
  refine kend0 (rs2 rfl (rv_w tb25 rfl rfl rfl) (rv_1 tb30 rfl rfl rfl)) rfl ?_
  rfl

end Go.Proofs.Ytgomklemldldiaa
