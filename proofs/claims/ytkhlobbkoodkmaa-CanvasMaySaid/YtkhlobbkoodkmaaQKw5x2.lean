/- canvases in memory of ones own. No condition. -/
import Derived.Test.YtkhlobbkoodkmaaQKw5x1
import Derived.Test.YtkhlobbkoodkmaaRows
namespace Go.Proofs.Ytkhlobbkoodkmaa
set_option linter.unusedVariables false
set_option linter.unusedSimpArgs false
open Go.RowKit
theorem fo40_0 : fdO Try.prog 40 0 = some 0 := by kernel_rfl
theorem fo40_1 : fdO Try.prog 40 1 = some 1 := by kernel_rfl
theorem tb5 : tyB Try.prog 5 = some (false, 1) := by kernel_rfl
set_option maxRecDepth 4000 in
set_option maxHeartbeats 1000000 in
theorem own_o (w h : Int) (ts : List TL) : DFun Try.prog 9 [shD w h ts] [] (.agg [.val (.int .i64 w), .val (.int .i64 h), .arr 0]) [.arr 52 256 (ts.take 17).length ((ts.take 17).flatMap tc)] := by
  refine dcalls_go (N := 13) 0 (by kernel_rfl) Try.func9 rfl rfl rfl (by simp only [fr0, Nat.zero_add, Nat.reduceAdd]; exact rfl) rfl fun s0 hs0 => ?_
  refine zae ?_
  refine dwp_holes 2 (by simp only [holes, List.cons_append, List.nil_append]; exact rfl) ?_
  refine zad ?_
  refine walk_w rfl rfl rfl (op_boxam 0 rfl (ev1 rfl) rfl) (by simp only [upd, za, zaa]; exact rfl) ?_
  refine walk_w rfl rfl rfl (op_alloc 1 rfl zr24 rfl) (by simp only [upd, za, zaa]; exact rfl) ?_
  refine zaf ?_
  refine zae ?_
  refine dwp_holes 1 (by simp only [holes, List.cons_append, List.nil_append]; exact rfl) ?_
  refine zad ?_
  refine zab rfl rfl rfl (op_fa rfl fo24_2 (ev1 rfl)) ?_
  refine zab rfl rfl rfl (op_ldm rfl tb22 (ev1 rfl) rfl rfl) ?_
  refine zab rfl rfl rfl (op_fa rfl fo24_2 (ev1 rfl)) ?_
  refine zab rfl rfl rfl (op_ldm rfl tb22 (ev1 rfl) rfl rfl) ?_
  refine zab rfl rfl rfl (op_len rfl sl22 (ev1 rfl)) ?_
  refine zab rfl rfl rfl (op_min rfl (ev1 rfl) (ev1 rfl)) ?_
  refine zab rfl rfl rfl (op_sltk (j := min ts.length 17) rfl sl22 (ev1 rfl) (bd_some (ev1 rfl)) (fun _ => by omega) (fun _ => by omega) tc_len) ?_
  refine walk_w rfl rfl rfl (dop_call [] [] [2] rfl (ev1 rfl) (ec (ev1 rfl) en) rfl rfl (cloneT _ (by rw [List.length_take]; omega)) rfl rfl rfl rfl rfl rfl) (by simp only [upd, za, zaa]; exact rfl) ?_
  refine zab rfl rfl rfl (op_fa rfl fo24_2 (ev1 rfl)) ?_
  refine walk_s rfl rfl (op_stm rfl tb22 (ev1 rfl) (ev1 rfl) (fun s v h => by cases h <;> exact ⟨rfl, rfl⟩) rfl (by first | decide | exact Nat.le_of_ble_eq_true rfl | simp)) (by simp only [upd, za, zaa]; exact rfl) ?_
  refine zaf ?_
  refine zae ?_
  refine zad ?_
  refine zab rfl rfl rfl (op_ldmw rfl tb24 (ev1 rfl) rfl rfl) ?_
  refine walk_s rfl rfl (op_stam rfl tb24 (ev1 rfl) (ev1 rfl) rfl rfl rfl rfl) (by simp only [upd, za, zaa]; exact rfl) ?_
  refine zaf ?_
  refine dwp_ret ?_
  refine kend [2] (rs1 rfl (rv_mw tb24 rfl rfl rfl)) rfl rfl ?_ ⟨?_, trivial⟩
  rfl
  rw [tkmin]; rfl
set_option maxRecDepth 4000 in
set_option maxHeartbeats 1000000 in
theorem each2_o (ds : List D) (ts : List TL) (hr : RowOk ds ts) (hn : ts.length ≤ 5000) : DFun Try.prog 38 [.slm 1 ds.length ds, .fn (.func 39) [] []] [] (.arr 0) [.arr 52 256 ts.length (ts.flatMap tc)] := by
  have hlen := hr.len
  refine dcalls_go (N := 25) 0 (by kernel_rfl) Try.func38 rfl rfl rfl (by simp only [fr0, Nat.zero_add, Nat.reduceAdd]; exact rfl) rfl fun s0 hs0 => ?_
  refine dwp_lenm (t := 0) rfl fun hl0 hL0 => ?_
  refine zae ?_
  refine zad ?_
  refine zab rfl rfl rfl (zac (.inr rfl) (ev1 rfl)) ?_
  refine zaf ?_
  refine zae ?_
  refine dwp_holes 1 (by simp only [holes, List.cons_append, List.nil_append]; exact rfl) ?_
  refine zad ?_
  refine zab rfl rfl rfl (zac (.inl rfl) (ev1 rfl)) ?_
  refine zab rfl rfl rfl (op_lenm rfl sl74 (ev1 rfl)) ?_
  refine walk_w rfl rfl rfl (op_mk0 0 (ds.length) rfl sl22 zr52 (ev1 rfl) (ev1 rfl) (fun _ => rfl) (fun _ => by omega) rfl (fun _ => ⟨by omega, by omega⟩)) (by simp only [upd, za, zaa]; exact rfl) ?_
  refine zab rfl rfl rfl (zac (.inr rfl) (ev1 rfl)) ?_
  refine zaf ?_
  refine zae ?_
  refine zae ?_
  refine zad ?_
  refine zab rfl rfl rfl (zac (.inl rfl) (ev1 rfl)) ?_
  refine zab rfl rfl rfl (op_lenm rfl sl74 (ev1 rfl)) ?_
  refine zab rfl rfl rfl (zac (.inl rfl) (ev1 rfl)) ?_
  refine zaf ?_
  refine dwp_block ?_
  refine dwp_loopS ⟨hs0, rfl⟩ (α := Nat) (fun k => [(13, .val (.int .i64 (k : Int)))]) [(1, _), (5, _), (11, _), (12, _)] (fun k => [(0, .arr 52 256 (ts.take k).length ((ts.take k).flatMap tc))]) [.hole] (fun k => k ≤ ts.length) (fun k => ts.length - k) 0 [0] (Nat.zero_le _) rfl ⟨rfl, rfl, rfl, rfl, trivial⟩ ⟨rfl, trivial⟩ ⟨rfl, trivial⟩ ?_
  intro k hx
  simp only [upd, za, zaa, List.cons_append, List.nil_append]
  have hk := hx
  have htl : (ts.take k).length = k := by rw [List.length_take]; omega
  refine zae ?_
  refine zad ?_
  refine zab rfl rfl rfl (op_lss rfl (ev1 rfl) (ev1 rfl)) ?_
  refine zaf ?_
  refine zae ?_
  refine dwp_cond rfl (fun c1 => ?_) (fun c1 => ?_)
  · try simp only [yg, ya, beq_iff_eq, bne_iff_ne, yb, yc, yf, ye, yh, yi, yd, ne_eq, yj, Int.not_lt, Int.not_le] at c1
    refine dwp_skip ?_
    refine zae ?_
    refine dwp_block ?_
    refine zae ?_
    obtain ⟨d, hd, _, hnl, _, hw⟩ := hr.at (q := k) (by omega)
    refine zad ?_
    refine zab rfl rfl rfl (op_ixm (k) rfl sl74 (ev1 rfl) (ev1 rfl) (fun _ => rfl) (hd)) ?_
    refine zab rfl rfl rfl ((op_lddm rfl tb78 (ev1 rfl) rfl).wk (hw)) ?_
    refine zab rfl rfl rfl (zac (.inr rfl) (ev1 rfl)) ?_
    refine zaf ?_
    refine dwp_holes 2 (by simp only [holes, List.cons_append, List.nil_append]; exact rfl) ?_
    refine zad ?_
    refine zab rfl rfl rfl (zac (.inl rfl) (ev1 rfl)) ?_
    refine zab rfl rfl rfl (zac (.inl rfl) (ev1 rfl)) ?_
    refine zab rfl rfl rfl (zac (.inl rfl) (ev1 rfl)) ?_
    refine zab rfl rfl rfl (dop_call [] [] [] rfl (ev1 rfl) (ec (ev1 rfl) en) rfl rfl (show1_d _) rfl rfl rfl rfl rfl rfl) ?_
    refine walk_w rfl rfl rfl (op_bsa (ps := [(0, .tmp 20)]) 1 rfl sl22 zr52 rfl (vc (ev1 rfl) vn) (tc_sz _) (by decide) (by decide) rfl) (by simp only [upd, za, zaa]; exact rfl) ?_
    refine walk_w rfl rfl rfl (op_app (j := 2) rfl sl22 zr52 rfl (ev1 rfl) (ev1 rfl) (src_arr rfl) rfl rfl (fun _ => tc_oc1 _) (fun _ => ⟨by omega, by omega⟩)) (by simp only [upd, za, zaa]; exact rfl) ?_
    refine zab rfl rfl rfl (zac (.inr rfl) (ev1 rfl)) ?_
    refine zaf ?_
    refine zad ?_
    refine zab rfl rfl rfl (op_add' rfl (ev1 rfl) (ev1 rfl) (fun _ => IntWalk.i64_in _ (by omega))) ?_
    refine zab rfl rfl rfl (zac (.inl rfl) (ev1 rfl)) ?_
    refine zaf ?_
    refine ⟨k + 1, [2], by omega, by simp only []; omega, rfl, ⟨rfl, rfl, rfl, rfl, rfl, trivial⟩, ⟨arr_eq (by simp; omega) (tk_add (by omega)), trivial⟩⟩
  · try simp only [yg, ya, beq_iff_eq, bne_iff_ne, yb, yc, yf, ye, yh, yi, yd, ne_eq, yj, Int.not_lt, Int.not_le] at c1
    refine dwp_exit ?_
    refine zae ?_
    refine zad ?_
    refine zab rfl rfl rfl (zac (.inl rfl) (ev1 rfl)) ?_
    refine zab rfl rfl rfl (zac (.inr rfl) (ev1 rfl)) ?_
    refine zaf ?_
    refine dwp_ret ?_
    refine kend [0] (rs1 rfl (rv_t rfl)) rfl rfl ?_ ⟨?_, trivial⟩
    rfl
    rw [List.take_of_length_le (by omega)]; rfl
set_option maxRecDepth 4000 in
set_option maxHeartbeats 1000000 in
theorem show_o (w h : Int) (ds : List D) (ts : List TL) (hr : RowOk ds ts) (hc : CvOk w h ts)  : DFun Try.prog 16 [cvD w h ds] [] (.agg [.val (.int .i64 w), .val (.int .i64 h), .arr 0]) [.arr 52 256 ts.length (ts.flatMap tc)] := by
  have hle := hc.le
  refine dcalls_go (N := 22) 0 (by kernel_rfl) Try.func16 rfl rfl rfl (by simp only [fr0, Nat.zero_add, Nat.reduceAdd]; exact rfl) rfl fun s0 hs0 => ?_
  refine zae ?_
  refine dwp_holes 1 (by simp only [holes, List.cons_append, List.nil_append]; exact rfl) ?_
  refine zad ?_
  refine walk_w rfl rfl rfl (op_alloc 0 rfl zr24 rfl) (by simp only [upd, za, zaa]; exact rfl) ?_
  refine zaf ?_
  refine zae ?_
  refine zae ?_
  refine zad ?_
  refine zab rfl rfl rfl (zac (.inl rfl) (ev1 rfl)) ?_
  refine zab rfl rfl rfl (op_pnilm rfl pt32 (ev1 rfl)) ?_
  refine zaf ?_
  refine dwp_if_f rfl (rfl) ?_
  refine dwp_skip ?_
  refine zae ?_
  refine dwp_holes 1 (by simp only [holes, List.cons_append, List.nil_append]; exact rfl) ?_
  refine dwp_draw [([], []), ([], []), ([], []), ([], []), ([], []), ([], []), ([], []), ([], []), ([], []), ([], []), ([], []), ([], []), ([], []), ([], []), ([1], [1]), ([], []), ([0], [0])] mixed (by kernel_rfl) ?_
  refine zag rfl rfl (zac (.inl rfl) (ev1 rfl)) ?_
  refine zag rfl rfl (op_nc rfl (ev1 rfl) (fun s v h => by cases h; exact ⟨_, rfl⟩)) ?_
  refine zag rfl rfl (op_fadm rfl fo76_0 (ev1 rfl)) ?_
  refine zag rfl rfl (op_fadm rfl fo72_0 (ev1 rfl)) ?_
  refine zag rfl rfl (op_lddm rfl tb3 (ev1 rfl) rfl) ?_
  refine zag rfl rfl (zac (.inl rfl) (ev1 rfl)) ?_
  refine zag rfl rfl (op_nc rfl (ev1 rfl) (fun s v h => by cases h; exact ⟨_, rfl⟩)) ?_
  refine zag rfl rfl (op_fadm rfl fo76_0 (ev1 rfl)) ?_
  refine zag rfl rfl (op_fadm rfl fo72_1 (ev1 rfl)) ?_
  refine zag rfl rfl (op_lddm rfl tb3 (ev1 rfl) rfl) ?_
  refine zag rfl rfl (zac (.inl rfl) (ev1 rfl)) ?_
  refine zag rfl rfl (op_nc rfl (ev1 rfl) (fun s v h => by cases h; exact ⟨_, rfl⟩)) ?_
  refine zag rfl rfl (op_fadm rfl fo76_1 (ev1 rfl)) ?_
  refine zag rfl rfl (op_lddm rfl tb74 (ev1 rfl) rfl) ?_
  refine lex_w rfl rfl (dop_call [] [] [1] rfl (ev1 rfl) (ec (ev1 rfl) (ec (ev1 rfl) en)) rfl rfl (each2_o ds ts hr (by omega)) rfl rfl rfl rfl rfl rfl) rfl (by simp only [upd, za, zaa]; exact rfl) ?_
  refine zag rfl rfl (op_bldD (ps := [(0, .tmp 10), (1, .tmp 15), (2, .tmp 20)]) rfl fl24 zr24 (ec (ev1 rfl) (ec (ev1 rfl) (ec (ev1 rfl) en))) rfl rfl rfl) ?_
  refine lex_s rfl rfl (op_stam rfl tb24 (ev1 rfl) (ev1 rfl) rfl rfl rfl rfl) rfl (by simp only [upd, za, zaa]; exact rfl) ?_
  refine lex_nil ?_
  refine dwp_ret ?_
  refine kend [1] (rs1 rfl (rv_mw tb24 rfl rfl rfl)) rfl rfl ?_ ⟨rfl, trivial⟩
  rfl
set_option maxRecDepth 4000 in
set_option maxHeartbeats 1000000 in
theorem each1_o (ts : List TL) (hn : ts.length ≤ 5000) : DFun Try.prog 40 [.arr 0, .fn (.func 41) [] []] [.arr 52 256 ts.length (ts.flatMap tc)] (.arr 1) [.arr 52 256 ts.length (ts.flatMap tc), .arx 78 1 ts.length (ptN 2 ts.length), .fam (tlM ts)] := by
  refine dcalls_go (N := 25) 1 (by kernel_rfl) Try.func40 rfl rfl rfl (by simp only [fr0, Nat.zero_add, Nat.reduceAdd]; exact rfl) rfl fun s0 hs0 => ?_
  refine dwp_lena (i := 0) rfl fun hl0 hL0 => ?_
  refine zae ?_
  refine zad ?_
  refine zab rfl rfl rfl (zac (.inr rfl) (ev1 rfl)) ?_
  refine zaf ?_
  refine zae ?_
  refine dwp_holes 1 (by simp only [holes, List.cons_append, List.nil_append]; exact rfl) ?_
  refine zad ?_
  refine zab rfl rfl rfl (zac (.inl rfl) (ev1 rfl)) ?_
  refine zab rfl rfl rfl (op_lena rfl sl22 (ev1 rfl) rfl) ?_
  refine walk_w rfl rfl rfl (op_mk0x 1 (ts.length) rfl sl74 zr78 (ev1 rfl) (ev1 rfl) (fun _ => rfl) (fun _ => by omega) rfl (fun _ => ⟨by omega, by omega⟩)) (by simp only [upd, za, zaa]; exact rfl) ?_
  refine zab rfl rfl rfl (zac (.inr rfl) (ev1 rfl)) ?_
  refine zaf ?_
  refine zae ?_
  refine zae ?_
  refine dwp_hole ?_
  refine dwp_fam 2 rfl (by simp only [List.cons_append, List.nil_append, za, zaa]; exact rfl) ?_
  refine zad ?_
  refine zab rfl rfl rfl (zac (.inl rfl) (ev1 rfl)) ?_
  refine zab rfl rfl rfl (op_lena rfl sl22 (ev1 rfl) rfl) ?_
  refine zab rfl rfl rfl (zac (.inl rfl) (ev1 rfl)) ?_
  refine zaf ?_
  refine dwp_block ?_
  refine dwp_loopS ⟨hs0, rfl⟩ (α := Nat) (fun k => [(13, .val (.int .i64 (k : Int)))]) [(1, _), (5, _), (11, _), (12, _)] (fun k => [(1, .arx 78 1 k (ptN 2 k)), (2, .fam (tlM (ts.take k)))]) [_, .hole, .hole] (fun k => k ≤ ts.length) (fun k => ts.length - k) 0 [0, 1, 2] (Nat.zero_le _) rfl ⟨rfl, rfl, rfl, rfl, trivial⟩ ⟨rfl, trivial⟩ ⟨rfl, rfl, rfl, trivial⟩ ?_
  intro k hx
  simp only [upd, za, zaa, List.cons_append, List.nil_append]
  have hk := hx
  have htl : (tlM (ts.take k)).length = k := by simp; omega
  refine zae ?_
  refine zad ?_
  refine zab rfl rfl rfl (op_lss rfl (ev1 rfl) (ev1 rfl)) ?_
  refine zaf ?_
  refine zae ?_
  refine dwp_cond rfl (fun c1 => ?_) (fun c1 => ?_)
  · try simp only [yg, ya, beq_iff_eq, bne_iff_ne, yb, yc, yf, ye, yh, yi, yd, ne_eq, yj, Int.not_lt, Int.not_le] at c1
    refine dwp_skip ?_
    refine zae ?_
    refine dwp_block ?_
    refine zae ?_
    refine dwp_holes 1 (by simp only [holes, List.cons_append, List.nil_append]; exact rfl) ?_
    refine zad ?_
    refine zab rfl rfl rfl (op_ixar (j := k) rfl sl22 (ev1 rfl) (ev1 rfl) rfl (fun _ => by first | rfl | omega) (fun _ => by omega)) ?_
    refine zab rfl rfl rfl (op_ldar rfl tb52 (ev1 rfl) rfl (tc_len) (by omega)) ?_
    refine walk_w rfl rfl rfl (op_alloc 3 rfl zr52 rfl) (by simp only [upd, za, zaa]; exact rfl) ?_
    refine walk_s rfl rfl (op_stwa rfl tb52 (ev1 rfl) (ev1 rfl) rfl (tc_len _) (tc_oc _) ((tc_len _).trans (tc_len _).symm)) (by simp only [upd, za, zaa]; exact rfl) ?_
    refine zaf ?_
    refine dwp_holes 3 (by simp only [holes, List.cons_append, List.nil_append]; exact rfl) ?_
    refine zad ?_
    refine zab rfl rfl rfl (zac (.inl rfl) (ev1 rfl)) ?_
    refine zab rfl rfl rfl (zac (.inl rfl) (ev1 rfl)) ?_
    refine zab rfl rfl rfl (op_ldw rfl tb52 (ev1 rfl) rfl (tc_len _)) ?_
    refine walk_w rfl rfl rfl (dop_call [] [] [4] rfl (ev1 rfl) (ec (ev1 rfl) en) rfl rfl (of1_d ts[k]) rfl rfl rfl rfl rfl rfl) (by simp only [upd, za, zaa]; exact rfl) ?_
    refine walk_absl 20 2 rfl rfl rfl (by simp only [za, zaa]; exact rfl) ?_
    refine walk_w rfl rfl rfl (op_bsx (ps := [(0, .tmp 20)]) 5 (fun s d v hd hr => by simp only [List.mem_cons, List.not_mem_nil, or_false] at hd; subst hd <;> first | exact rep_own_cells hr | (cases hr <;> rfl)) rfl sl74 zr78 rfl (ec (ev1 rfl) en) (by decide) rfl) (by simp only [upd, za, zaa]; exact rfl) ?_
    refine walk_w rfl rfl rfl (op_appxx (j := 6) rfl sl74 zr78 rfl (ev1 rfl) (ev1 rfl) rfl rfl rfl rfl (fun _ => ⟨by omega, by omega⟩)) (by simp only [upd, za, zaa]; exact rfl) ?_
    refine zab rfl rfl rfl (zac (.inr rfl) (ev1 rfl)) ?_
    refine zaf ?_
    refine zad ?_
    refine zab rfl rfl rfl (op_add' rfl (ev1 rfl) (ev1 rfl) (fun _ => IntWalk.i64_in _ (by omega))) ?_
    refine zab rfl rfl rfl (zac (.inl rfl) (ev1 rfl)) ?_
    refine zaf ?_
    refine ⟨k + 1, [0, 6, 2], by omega, by simp only []; omega, rfl, ⟨rfl, rfl, rfl, rfl, rfl, trivial⟩, ⟨rfl, ptN_fits (by rw [htl]; exact ptN_add 2 k) rfl rfl, by rw [← tlM_add (by omega)]; rfl, trivial⟩⟩
  · try simp only [yg, ya, beq_iff_eq, bne_iff_ne, yb, yc, yf, ye, yh, yi, yd, ne_eq, yj, Int.not_lt, Int.not_le] at c1
    refine dwp_exit ?_
    refine zae ?_
    refine zad ?_
    refine zab rfl rfl rfl (zac (.inl rfl) (ev1 rfl)) ?_
    refine zab rfl rfl rfl (zac (.inr rfl) (ev1 rfl)) ?_
    refine zaf ?_
    refine dwp_ret ?_
    obtain rfl : k = ts.length := by omega
    refine kend [0, 1, 2] (rs1 rfl (rv_t rfl)) rfl rfl ?_ ⟨?_, ?_, ?_, trivial⟩
    rfl
    exact rfl
    exact ptN_fits rfl rfl rfl
    exact (by rw [List.take_length]; rfl)
set_option maxRecDepth 4000 in
set_option maxHeartbeats 1000000 in
theorem of_o (w h : Int) (ts : List TL) (hc : CvOk w h ts) : DFunI Try.prog 18 [.agg [.val (.int .i64 w), .val (.int .i64 h), .arr 0]] [.arr 52 256 ts.length (ts.flatMap tc)] (fun I => Okd (NewCv I w h ts)) [.arr 52 256 ts.length (ts.flatMap tc)] := by
  have hr := hc.right
  have hle := hc.le
  refine dcallsI_go (N := 20) 1 (by kernel_rfl) Try.func18 rfl rfl rfl (by simp only [fr0, Nat.zero_add, Nat.reduceAdd]; exact rfl) rfl fun s0 hs0 => ?_
  refine zae ?_
  refine dwp_holes 1 (by simp only [holes, List.cons_append, List.nil_append]; exact rfl) ?_
  refine zad ?_
  refine walk_w rfl rfl rfl (op_boxam 1 rfl (ev1 rfl) rfl) (by simp only [upd, za, zaa]; exact rfl) ?_
  refine zab rfl rfl rfl (zac (.inr rfl) (ev1 rfl)) ?_
  refine zab rfl rfl rfl (zac (.inr rfl) (ev1 rfl)) ?_
  refine zaf ?_
  refine zae ?_
  refine zae ?_
  refine zad ?_
  refine zab rfl rfl rfl (op_ldmw rfl tb24 (ev1 rfl) rfl rfl) ?_
  refine zab rfl rfl rfl (dop_call [] [0] [] rfl (ev1 rfl) (ec (ev1 rfl) en) rfl rfl (check_d w h ts) rfl rfl rfl rfl rfl rfl) ?_
  refine zab rfl rfl rfl (zac (.inr rfl) (ev1 rfl)) ?_
  refine zaf ?_
  refine zae ?_
  refine zad ?_
  refine zab rfl rfl rfl (zac (.inl rfl) (ev1 rfl)) ?_
  refine zab rfl rfl rfl (op_neq rfl (ev1 rfl) (ev1 rfl)) ?_
  refine zaf ?_
  refine dwp_if_f rfl (by rw [hr]; rfl) ?_
  refine dwp_skip ?_
  refine zae ?_
  refine dwp_holes 3 (by simp only [holes, List.cons_append, List.nil_append]; exact rfl) ?_
  refine dwp_draw [([], []), ([1], []), ([], []), ([1], []), ([], []), ([], []), ([1], []), ([0, 2, 3], [0, 2, 3]), ([], []), ([4], [4]), ([], []), ([], [])] mixed (by kernel_rfl) ?_
  refine zag rfl rfl (op_fa rfl fo24_0 (ev1 rfl)) ?_
  refine zag rfl rfl (op_ldm rfl tb3 (ev1 rfl) rfl rfl) ?_
  refine zag rfl rfl (op_fa rfl fo24_1 (ev1 rfl)) ?_
  refine zag rfl rfl (op_ldm rfl tb3 (ev1 rfl) rfl rfl) ?_
  refine zag rfl rfl (op_build (ps := [(0, .tmp 11), (1, .tmp 13)]) rfl fl72 zr72 (vc (ev1 rfl) (vc (ev1 rfl) vn)) rfl rfl) ?_
  refine zag rfl rfl (op_fa rfl fo24_2 (ev1 rfl)) ?_
  refine zag rfl rfl (op_ldm rfl tb22 (ev1 rfl) rfl rfl) ?_
  refine lex_w rfl rfl (dop_call [0] [] [2, 3] rfl (ev1 rfl) (ec (ev1 rfl) (ec (ev1 rfl) en)) rfl rfl (each1_o ts (by omega)) rfl rfl rfl (by exact (wrc rfl (wrc (sb_ptN rfl) (wrc rfl rfl)))) rfl rfl) rfl (by simp only [upd, za, zaa]; exact rfl) ?_
  refine zag rfl rfl (op_bldD (ps := [(0, .tmp 14), (1, .tmp 17)]) rfl fl76 zr76 (ec (ev1 rfl) (ec (ev1 rfl) en)) rfl rfl rfl) ?_
  refine lex_w rfl rfl (op_boxam 4 rfl (ev1 rfl) rfl) rfl (by simp only [upd, za, zaa]; exact rfl) ?_
  refine zag rfl rfl (zac (.inr rfl) (ev1 rfl)) ?_
  refine zag rfl rfl (zac (.inr rfl) (ev1 rfl)) ?_
  refine lex_nil ?_
  refine dwp_frz 3 2 rfl rfl (tlM_flat) fun ad had => ?_
  simp only [za, zaa]
  refine dwp_givem 4 2 ((by rw [ptN_frz]; exact (pinsR_ok (by simp)).nl)) rfl rfl rfl (by simp only [za, zaa]; exact rfl) ?_
  refine dwp_ret ?_
  refine kendI (post := fun I => Okd (NewCv I w h ts)) (I := s0.I) (Mo := [.arr 52 256 ts.length (ts.flatMap tc)]) [0] (rs2 rfl (rv_t rfl) (rv_t rfl)) rfl rfl ?_ ⟨rfl, trivial⟩
  rw [ptN_frz]
  exact ⟨_, ⟨(List.range ts.length).map ad, by simp, fun b hb => by
      obtain ⟨k, hk, rfl⟩ := List.mem_map.1 hb
      exact had k (by simpa using hk), rfl⟩, by rw [cvD, pinsR_len (by simp)]; rfl⟩
theorem okd_wk {I : Nat → Prop} {w h : Int} {ts : List TL} {d : D} (hf : Okd (NewCv I w h ts) d) : Wk d (.tup [cvD w h (dpR ts), .val (.int .i64 0)]) := by
  obtain ⟨_, ⟨A, hA, _, rfl⟩, rfl⟩ := hf
  exact Wk.tup (.cons ((pinsR_ok hA).wkd w h) (.cons (.refl _) .nil))
theorem of_d (w h : Int) (ts : List TL) (hc : CvOk w h ts) : DFun Try.prog 18 [shD w h ts] [] (.tup [cvD w h (dpR ts), .val (.int .i64 0)]) [] := (of_i w h ts hc).fun fun I d hf => okd_wk hf
theorem of_od (w h : Int) (ts : List TL) (hc : CvOk w h ts) : DFun Try.prog 18 [.agg [.val (.int .i64 w), .val (.int .i64 h), .arr 0]] [.arr 52 256 ts.length (ts.flatMap tc)] (.tup [cvD w h (dpR ts), .val (.int .i64 0)]) [.arr 52 256 ts.length (ts.flatMap tc)] := (of_o w h ts hc).fun fun I d hf => okd_wk hf
theorem cnew_d (w h : Int) (n : Nat) (hm : mayS w h = true) (hn : w * h = (n : Int)) : DFun Try.prog 14 [.val (.int .i64 w), .val (.int .i64 h)] [] (.tup [cvD w h (dpR (List.replicate n (nT zC4))), .val (.int .i64 0)]) [] := (cnew_i w h n hm hn).fun fun I d hf => okd_wk hf
theorem zt_rep (n : Nat) : (List.replicate n (nT zC4)).flatMap tc = List.replicate (n * 256) (Value.int .u8 0) := by
  have e : tc (nT zC4) = List.replicate 256 (Value.int .u8 0) := by kernel_rfl
  induction n with
  | zero => simp
  | succ n ih => rw [List.replicate_succ, List.flatMap_cons, ih, e, List.replicate_append_replicate]; congr 1; omega
set_option maxRecDepth 4000 in
set_option maxHeartbeats 1000000 in
theorem rnew_o (w h : Int) (n : Nat) (hm : mayS w h = true) (hn : w * h = (n : Int)) : DFun Try.prog 17 [.val (.int .i64 w), .val (.int .i64 h)] [] (.agg [.val (.int .i64 w), .val (.int .i64 h), .arr 0]) [.arr 52 256 (List.replicate n (nT zC4)).length ((List.replicate n (nT zC4)).flatMap tc)] := by
  have hb := mul_in hm
  refine dcalls_go (N := 12) 0 (by kernel_rfl) Try.func17 rfl rfl rfl (by simp only [fr0, Nat.zero_add, Nat.reduceAdd]; exact rfl) rfl fun s0 hs0 => ?_
  refine zae ?_
  refine dwp_holes 1 (by simp only [holes, List.cons_append, List.nil_append]; exact rfl) ?_
  refine zad ?_
  refine walk_w rfl rfl rfl (op_alloc 0 rfl zr24 rfl) (by simp only [upd, za, zaa]; exact rfl) ?_
  refine zaf ?_
  refine zae ?_
  refine dwp_holes 1 (by simp only [holes, List.cons_append, List.nil_append]; exact rfl) ?_
  refine zad ?_
  refine zab rfl rfl rfl (zac (.inl rfl) (ev1 rfl)) ?_
  refine zab rfl rfl rfl (zac (.inl rfl) (ev1 rfl)) ?_
  refine zab rfl rfl rfl (zac (.inl rfl) (ev1 rfl)) ?_
  refine zab rfl rfl rfl (zac (.inl rfl) (ev1 rfl)) ?_
  refine zab rfl rfl rfl (op_mul' rfl (ev1 rfl) (ev1 rfl) (fun _ => IntWalk.i64_in _ (by omega))) ?_
  refine walk_w rfl rfl rfl (op_mkg 1 (n) (.int .u8 0) rfl sl22 zr52 (by kernel_rfl) (by decide) (ev1 rfl) (ev1 rfl) (fun _ => hn) (fun _ => hn) rfl (fun _ => ⟨by omega, by omega⟩)) (by simp only [upd, za, zaa]; exact rfl) ?_
  refine zab rfl rfl rfl (op_bldD (ps := [(0, .tmp 5), (1, .tmp 6), (2, .tmp 10)]) rfl fl24 zr24 (ec (ev1 rfl) (ec (ev1 rfl) (ec (ev1 rfl) en))) rfl rfl rfl) ?_
  refine walk_s rfl rfl (op_stam rfl tb24 (ev1 rfl) (ev1 rfl) rfl rfl rfl rfl) (by simp only [upd, za, zaa]; exact rfl) ?_
  refine zaf ?_
  refine dwp_ret ?_
  refine kend [1] (rs1 rfl (rv_mw tb24 rfl rfl rfl)) rfl rfl ?_ ⟨?_, trivial⟩
  rfl
  exact arr_eq (by simp) (zt_rep n).symm
theorem rnew_d (w h : Int) (n : Nat) (hm : mayS w h = true) (hn : w * h = (n : Int)) : DFun Try.prog 17 [.val (.int .i64 w), .val (.int .i64 h)] [] (shD w h (List.replicate n (nT zC4))) [] := freeze (rnew_o w h n hm hn) rfl
theorem setL_tr {ts : List TL} {j q : Nat} {v : Int} (hj : j < ts.length) (hq : q < 64) : setL (ts.flatMap tc) (j * 256 + q * 4) [.int .u8 v] = (ts.set j ((ts.getD j zT).set q { (ts.getD j zT).get q with r := v })).flatMap tc := by
  refine flat_set_part tc_len hj (by show q * 4 + 1 ≤ 256; omega) ?_
  rw [tl_at hj]
  have hq2 : q < ts[j].l.length := by rw [TL.h]; exact hq
  refine flat_set_part (c := 0) c4_len hq2 (by show 0 + 1 ≤ 4; decide) ?_
  unfold TL.get
  rw [List.getD_eq_getElem?_getD, List.getElem?_eq_getElem hq2]
  rfl
theorem setL_tg {ts : List TL} {j q : Nat} {v : Int} (hj : j < ts.length) (hq : q < 64) : setL (ts.flatMap tc) (j * 256 + (q * 4 + 1)) [.int .u8 v] = (ts.set j ((ts.getD j zT).set q { (ts.getD j zT).get q with g := v })).flatMap tc := by
  refine flat_set_part tc_len hj (by show q * 4 + 1 + 1 ≤ 256; omega) ?_
  rw [tl_at hj]
  have hq2 : q < ts[j].l.length := by rw [TL.h]; exact hq
  refine flat_set_part (c := 1) c4_len hq2 (by show 1 + 1 ≤ 4; decide) ?_
  unfold TL.get
  rw [List.getD_eq_getElem?_getD, List.getElem?_eq_getElem hq2]
  rfl
theorem get_tr {ts : List TL} {j q c : Nat} {v : Value} (hj : j < ts.length) (hq : q < 64) (hc : c < 4) (hv : (c4 ((ts.getD j zT).get q))[c]? = some v) : (ts.flatMap tc)[j * 256 + (q * 4 + c)]? = some v := by
  rw [flat_cell tc_len hj (by omega), ← tl_at hj]
  generalize ts.getD j zT = t at hv ⊢
  have hq2 : q < t.l.length := by rw [TL.h]; exact hq
  rw [flat_cell c4_len hq2 hc]
  unfold TL.get at hv
  rw [List.getD_eq_getElem?_getD, List.getElem?_eq_getElem hq2] at hv
  exact hv
set_option maxRecDepth 4000 in
set_option maxHeartbeats 1000000 in
theorem with_n (d : D) : DFun Try.prog 21 [.val (.pointer none), d] [] (.val (.pointer none)) [] := by
  refine dcalls_go (N := 42) 0 (by kernel_rfl) Try.func21 rfl rfl rfl (by simp only [fr0, Nat.zero_add, Nat.reduceAdd]; exact rfl) rfl fun s0 hs0 => ?_
  refine zae ?_
  refine zad ?_
  refine zab rfl rfl rfl (zac (.inr rfl) (ev1 rfl)) ?_
  refine zaf ?_
  refine zae ?_
  refine zae ?_
  refine zad ?_
  refine zab rfl rfl rfl (zac (.inl rfl) (ev1 rfl)) ?_
  refine zab rfl rfl rfl (op_pnil0 rfl pt32 (ev1 rfl)) ?_
  refine zaf ?_
  refine dwp_if_t rfl (rfl) ?_
  refine zae ?_
  refine zad ?_
  refine zab rfl rfl rfl (zac (.inr rfl) (ev1 rfl)) ?_
  refine zaf ?_
  refine dwp_ret ?_
  refine kend0 (rs1 rfl (rv_t rfl)) rfl ?_
  rfl
theorem wk_n0 : Wk (.val (.agg #[.int .i64 0, .int .i64 0, .slice none 0 0])) (shD 0 0 []) := (Wk.vagg _).trans (Wk.agg (.cons (.refl _) (.cons (.refl _) (.cons (Wk.slf0 256) .nil))))
set_option maxRecDepth 4000 in
set_option maxHeartbeats 1000000 in
theorem may_d (w h : Int) (xs : List TL) (w2 h2 : Int) (ys : List TL) (l : List P2) : DFun Try.prog 3 [shD w h xs, shD w2 h2 ys, .slf 2 l.length (l.flatMap p2)] [] (.val (.bool true)) [] := by
  refine dcalls_go (N := 336) 0 (by kernel_rfl) Try.func3 rfl rfl rfl (by simp only [fr0, Nat.zero_add, Nat.reduceAdd]; exact rfl) rfl fun s0 hs0 => ?_
  refine dwp_len (t := 2) rfl fun hl2 hL2 => ?_
  refine zae ?_
  refine dwp_holes 2 (by simp only [holes, List.cons_append, List.nil_append]; exact rfl) ?_
  refine zad ?_
  refine walk_w rfl rfl rfl (op_boxam 0 rfl (ev1 rfl) rfl) (by simp only [upd, za, zaa]; exact rfl) ?_
  refine walk_w rfl rfl rfl (op_boxam 1 rfl (ev1 rfl) rfl) (by simp only [upd, za, zaa]; exact rfl) ?_
  refine zab rfl rfl rfl (zac (.inr rfl) (ev1 rfl)) ?_
  refine zaf ?_
  refine zae ?_
  refine zae ?_
  refine zad ?_
  refine zab rfl rfl rfl (dop_call [] [] [] rfl (ev1 rfl) en rfl rfl (wakes_d) rfl rfl rfl rfl rfl rfl) ?_
  refine zab rfl rfl rfl (op_not rfl (ev1 rfl)) ?_
  refine zaf ?_
  refine dwp_if_f rfl (rfl) ?_
  refine dwp_skip ?_
  refine zae ?_
  obtain ⟨T, hT⟩ : ∃ T, T = xs.take 17 := ⟨_, rfl⟩
  obtain ⟨U, hU⟩ : ∃ U, U = ys.take 17 := ⟨_, rfl⟩
  have hTl : T.length ≤ 17 := by rw [hT, List.length_take]; omega
  have hUl : U.length ≤ 17 := by rw [hU, List.length_take]; omega
  refine dwp_holes 3 (by simp only [holes, List.cons_append, List.nil_append]; exact rfl) ?_
  refine dwp_draw [([0], []), ([2], [2]), ([1], []), ([], []), ([3], [3]), ([4], [4]), ([3], [3]), ([4], [4])] mixed (by kernel_rfl) ?_
  refine zag rfl rfl (op_ldmw rfl tb24 (ev1 rfl) rfl rfl) ?_
  refine lex_w rfl rfl (dop_call [] [] [2] rfl (ev1 rfl) (ec (ev1 rfl) en) rfl rfl ((by rw [hT]; exact own_o w h xs : DFun Try.prog 9 [shD w h xs] [] (.agg [.val (.int .i64 w), .val (.int .i64 h), .arr 0]) [.arr 52 256 T.length (T.flatMap tc)])) rfl rfl rfl rfl rfl rfl) rfl (by simp only [upd, za, zaa]; exact rfl) ?_
  refine zag rfl rfl (op_ldmw rfl tb24 (ev1 rfl) rfl rfl) ?_
  refine zag rfl rfl (dop_call [] [] [] rfl (ev1 rfl) (ec (ev1 rfl) en) rfl rfl ((by rw [hU]; exact own_d w2 h2 ys : DFun Try.prog 9 [shD w2 h2 ys] [] (shD w2 h2 U) [])) rfl rfl rfl rfl rfl rfl) ?_
  refine lex_w rfl rfl (op_alloc 3 rfl zr24 rfl) rfl (by simp only [upd, za, zaa]; exact rfl) ?_
  refine lex_w rfl rfl (op_alloc 4 rfl zr24 rfl) rfl (by simp only [upd, za, zaa]; exact rfl) ?_
  refine lex_s rfl rfl (op_stam rfl tb24 (ev1 rfl) (ev1 rfl) rfl rfl rfl rfl) rfl (by simp only [upd, za, zaa]; exact rfl) ?_
  refine lex_s rfl rfl (op_stam rfl tb24 (ev1 rfl) (ev1 rfl) rfl rfl rfl rfl) rfl (by simp only [upd, za, zaa]; exact rfl) ?_
  refine lex_nil ?_
  refine zae ?_
  refine dwp_draw [([3], []), ([2], []), ([4], []), ([], []), ([], []), ([], [])] mixed (by kernel_rfl) ?_
  refine zag rfl rfl (op_ldmw rfl tb24 (ev1 rfl) rfl rfl) ?_
  refine zag rfl rfl (dop_call [] [2] [] rfl (ev1 rfl) (ec (ev1 rfl) en) rfl rfl (right_d w h T) rfl rfl rfl rfl rfl rfl) ?_
  refine zag rfl rfl (op_ldmw rfl tb24 (ev1 rfl) rfl rfl) ?_
  refine zag rfl rfl (dop_call [] [] [] rfl (ev1 rfl) (ec (ev1 rfl) en) rfl rfl (right_d w2 h2 U) rfl rfl rfl rfl rfl rfl) ?_
  refine zag rfl rfl (zac (.inr rfl) (ev1 rfl)) ?_
  refine zag rfl rfl (zac (.inr rfl) (ev1 rfl)) ?_
  refine lex_nil ?_
  refine zae ?_
  refine zae ?_
  refine zad ?_
  refine zab rfl rfl rfl (op_ldmw rfl tb24 (ev1 rfl) rfl rfl) ?_
  refine zab rfl rfl rfl (dop_call [] [2] [] rfl (ev1 rfl) (ec (ev1 rfl) en) rfl rfl (check_d w h T) rfl rfl rfl rfl rfl rfl) ?_
  refine zab rfl rfl rfl (zac (.inr rfl) (ev1 rfl)) ?_
  refine zaf ?_
  refine zae ?_
  refine dwp_draw [([], []), ([], []), ([], []), ([], []), ([], []), ([], []), ([], []), ([], []), ([], []), ([], []), ([], []), ([], []), ([], []), ([3], []), ([4], []), ([2], []), ([3], []), ([4], []), ([2], []), ([], []), ([], [])] mixed (by kernel_rfl) ?_
  refine zag rfl rfl (zac (.inl rfl) (ev1 rfl)) ?_
  refine zag rfl rfl (op_eql rfl (ev1 rfl) (ev1 rfl)) ?_
  refine zag rfl rfl (zac (.inl rfl) (ev1 rfl)) ?_
  refine zag rfl rfl (op_neb rfl un4 (ev1 rfl) (ev1 rfl)) ?_
  refine zag rfl rfl (zac (.inl rfl) (ev1 rfl)) ?_
  refine lex_gr (gd_f rfl rfl rfl) rfl rfl (zac (.inl rfl) (ev1 rfl)) ?_
  refine lex_gr (gd_f rfl rfl rfl) rfl rfl (op_neq rfl (ev2 rfl) (ev1 rfl)) ?_
  refine lex_gr (gd_f rfl rfl rfl) rfl rfl (zac (.inl rfl) (ev2 rfl)) ?_
  refine lex_gr (gd_tt rfl rfl rfl) rfl rfl (zac (.inl rfl) (ev1 rfl)) ?_
  refine lex_gr (gd_tt rfl rfl rfl) rfl rfl (op_neq rfl (ev2 rfl) (ev1 rfl)) ?_
  refine lex_gr (gd_f rfl rfl rfl) rfl rfl (op_and rfl (ev2 rfl) (ev2 rfl)) ?_
  refine zag rfl rfl (op_or rfl (ev1 rfl) (ev3 rfl id)) ?_
  refine zag rfl rfl (zac (.inl rfl) (ev1 rfl)) ?_
  refine lex_gr (gd_f rfl rfl rfl) rfl rfl (op_ldmw rfl tb24 (ev1 rfl) rfl rfl) ?_
  refine lex_gr (gd_f rfl rfl rfl) rfl rfl (op_ldmw rfl tb24 (ev1 rfl) rfl rfl) ?_
  refine lex_gr (gd_f rfl rfl rfl) rfl rfl (dop_call [] [2] [] rfl (ev1 rfl) (ec (ev2 rfl) (ec (ev2 rfl) en)) rfl rfl (alike_d w h w2 h2 T U) rfl rfl rfl rfl rfl rfl) ?_
  refine lex_gr (gd_f rfl rfl rfl) rfl rfl (op_ldmw rfl tb24 (ev1 rfl) rfl rfl) ?_
  refine lex_gr (gd_f rfl rfl rfl) rfl rfl (op_ldmw rfl tb24 (ev1 rfl) rfl rfl) ?_
  refine lex_gr (gd_f rfl rfl rfl) rfl rfl (dop_call [] [2] [] rfl (ev1 rfl) (ec (ev2 rfl) (ec (ev2 rfl) en)) rfl rfl (same_d w h w2 h2 T U (by omega)) rfl rfl rfl rfl rfl rfl) ?_
  refine lex_gr (gd_f rfl rfl rfl) rfl rfl (op_neb rfl un4 (ev2 rfl) (ev2 rfl)) ?_
  refine zag rfl rfl (op_or rfl (ev1 rfl) (ev3 rfl id)) ?_
  refine lex_nil ?_
  refine dwp_if_f rfl (by cases hrr : rightB w h T <;> simp [errOr]) ?_
  refine dwp_skip ?_
  refine zae ?_
  by_cases hright : rightB w h T = true
  · have hc := rightB_ok hright
    have hle := hc.le
    have hb := mayS_b hc.may
    refine zad ?_
    refine zab rfl rfl rfl (op_fa rfl fo24_0 (ev1 rfl)) ?_
    refine zab rfl rfl rfl (op_ldm rfl tb3 (ev1 rfl) rfl rfl) ?_
    refine zab rfl rfl rfl (op_fa rfl fo24_1 (ev1 rfl)) ?_
    refine zab rfl rfl rfl (op_ldm rfl tb3 (ev1 rfl) rfl rfl) ?_
    refine zab rfl rfl rfl (dop_call [] [] [] rfl (ev1 rfl) (ec (ev1 rfl) (ec (ev1 rfl) en)) rfl rfl (cnew_d w h (w * h).toNat hc.may (by have := mul_in hc.may; omega)) rfl rfl rfl rfl rfl rfl) ?_
    refine zab rfl rfl rfl (zac (.inl rfl) (ev1 rfl)) ?_
    refine zab rfl rfl rfl (op_ext rfl (ev1 rfl) rfl) ?_
    refine zab rfl rfl rfl (op_ext rfl (ev1 rfl) rfl) ?_
    refine zab rfl rfl rfl (zac (.inr rfl) (ev1 rfl)) ?_
    refine zab rfl rfl rfl (zac (.inr rfl) (ev1 rfl)) ?_
    refine zaf ?_
    refine zae ?_
    refine zae ?_
    refine zad ?_
    refine zab rfl rfl rfl (op_fa rfl fo24_0 (ev1 rfl)) ?_
    refine zab rfl rfl rfl (op_ldm rfl tb3 (ev1 rfl) rfl rfl) ?_
    refine zab rfl rfl rfl (op_fa rfl fo24_1 (ev1 rfl)) ?_
    refine zab rfl rfl rfl (op_ldm rfl tb3 (ev1 rfl) rfl rfl) ?_
    refine zab rfl rfl rfl ((dop_call [] [] [] rfl (ev1 rfl) (ec (ev1 rfl) (ec (ev1 rfl) en)) rfl rfl (rsizes_d _ _) rfl rfl rfl rfl rfl rfl).cast (d' := .val (.bool true)) (by rw [hc.may])) ?_
    refine zab rfl rfl rfl (zac (.inr rfl) (ev1 rfl)) ?_
    refine zaf ?_
    refine zae ?_
    have hmi := mul_in hc.may
    have hcn : CvOk w h (List.replicate (w * h).toNat (nT zC4)) := ⟨hc.may, by rw [List.length_replicate]; omega⟩
    have hcl := hcn.le
    refine dwp_draw [([], []), ([], []), ([], []), ([], []), ([], []), ([], []), ([], []), ([], []), ([], []), ([], []), ([], []), ([], []), ([], []), ([], []), ([], []), ([], []), ([], []), ([], []), ([], []), ([], []), ([], []), ([], []), ([3], []), ([], []), ([3], []), ([], []), ([], []), ([], []), ([], []), ([], [])] mixed (by kernel_rfl) ?_
    refine zag rfl rfl (zac (.inl rfl) (ev1 rfl)) ?_
    refine zag rfl rfl ((op_eql rfl (ev1 rfl) (ev1 rfl)).cast (d' := .val (.bool true)) (by kernel_rfl)) ?_
    refine zag rfl rfl (zac (.inl rfl) (ev1 rfl)) ?_
    refine zag rfl rfl ((op_neb rfl un4 (ev1 rfl) (ev1 rfl)).cast (d' := .val (.bool false)) (by kernel_rfl)) ?_
    refine zag rfl rfl (zac (.inl rfl) (ev1 rfl)) ?_
    refine lex_k (gd_f (b := false) rfl rfl rfl) rfl rfl (zac (.inl rfl) (ev1 rfl)) rfl (by simp only [upd, za, zaa]; exact rfl) ?_
    refine lex_k (gd_f (b := false) rfl rfl rfl) rfl rfl ((op_not rfl (ev2 rfl)).cast (d' := .val (.bool false)) (by kernel_rfl)) rfl (by simp only [upd, za, zaa]; exact rfl) ?_
    refine lex_k (gd_f (b := false) rfl rfl rfl) rfl rfl (zac (.inl rfl) (ev2 rfl)) rfl (by simp only [upd, za, zaa]; exact rfl) ?_
    refine lex_gr (gd_tt (g := true) (b := false) rfl rfl rfl) rfl rfl (dop_never (d := .junk)) ?_
    refine lex_gr (gd_tt (g := true) (b := false) rfl rfl rfl) rfl rfl (dop_never (d := .val (.bool false))) ?_
    refine lex_gr (gd_tt (g := true) (b := false) rfl rfl rfl) rfl rfl (dop_never (d := .val (.bool false))) ?_
    refine lex_gr (gd_ff (g := false) (b := false) rfl rfl rfl) rfl rfl (dop_never (d := .junk)) ?_
    refine lex_gr (gd_ff (g := false) (b := false) rfl rfl rfl) rfl rfl (dop_never (d := .val (.bool false))) ?_
    refine lex_gr (gd_tt (g := true) (b := false) rfl rfl rfl) rfl rfl (dop_never (d := .val (.bool false))) ?_
    refine lex_k (gd_f (b := false) rfl rfl rfl) rfl rfl ((op_and rfl (ev2 rfl) (ev3 rfl id)).cast (d' := .val (.bool false)) (by rfl)) rfl (by simp only [upd, za, zaa]; exact rfl) ?_
    refine zag rfl rfl ((op_or rfl (ev1 rfl) (ev3 rfl (fun _ => rfl))).cast (d' := .val (.bool false)) (by rfl)) ?_
    refine zag rfl rfl (zac (.inl rfl) (ev1 rfl)) ?_
    refine lex_k (gd_f (b := false) rfl rfl rfl) rfl rfl (zac (.inl rfl) (ev1 rfl)) rfl (by simp only [upd, za, zaa]; exact rfl) ?_
    refine lex_k (gd_f (b := false) rfl rfl rfl) rfl rfl (zac (.inl rfl) (ev2 rfl)) rfl (by simp only [upd, za, zaa]; exact rfl) ?_
    refine lex_k (gd_tt (g := true) (b := true) rfl rfl rfl) rfl rfl (zac (.inl rfl) (ev1 rfl)) rfl (by simp only [upd, za, zaa]; exact rfl) ?_
    refine lex_k (gd_tt (g := true) (b := true) rfl rfl rfl) rfl rfl (dop_call [] [] [] rfl (ev1 rfl) (ec (ev2 rfl) en) rfl rfl (show_d w h _ _ (dpR_ok _) hcn) rfl rfl rfl rfl rfl rfl) rfl (by simp only [upd, za, zaa]; exact rfl) ?_
    refine lex_k (gd_tt (g := true) (b := true) rfl rfl rfl) rfl rfl (op_fa rfl fo24_0 (ev1 rfl)) rfl (by simp only [upd, za, zaa]; exact rfl) ?_
    refine lex_k (gd_tt (g := true) (b := true) rfl rfl rfl) rfl rfl (op_ldm rfl tb3 (ev2 rfl) rfl rfl) rfl (by simp only [upd, za, zaa]; exact rfl) ?_
    refine lex_k (gd_tt (g := true) (b := true) rfl rfl rfl) rfl rfl (op_fa rfl fo24_1 (ev1 rfl)) rfl (by simp only [upd, za, zaa]; exact rfl) ?_
    refine lex_k (gd_tt (g := true) (b := true) rfl rfl rfl) rfl rfl (op_ldm rfl tb3 (ev2 rfl) rfl rfl) rfl (by simp only [upd, za, zaa]; exact rfl) ?_
    refine lex_k (gd_tt (g := true) (b := true) rfl rfl rfl) rfl rfl (dop_call [] [] [] rfl (ev1 rfl) (ec (ev2 rfl) (ec (ev2 rfl) en)) rfl rfl (rnew_d w h (w * h).toNat hc.may (by omega)) rfl rfl rfl rfl rfl rfl) rfl (by simp only [upd, za, zaa]; exact rfl) ?_
    refine lex_k (gd_tt (g := true) (b := true) rfl rfl rfl) rfl rfl (dop_call [] [] [] rfl (ev1 rfl) (ec (ev2 rfl) (ec (ev2 rfl) en)) rfl rfl (same_d _ _ _ _ _ _ (by omega)) rfl rfl rfl rfl rfl rfl) rfl (by simp only [upd, za, zaa]; exact rfl) ?_
    refine lex_k (gd_tt (g := true) (b := true) rfl rfl rfl) rfl rfl (op_not rfl (ev2 rfl)) rfl (by simp only [upd, za, zaa]; exact rfl) ?_
    refine lex_k (gd_f (b := false) rfl rfl rfl) rfl rfl (op_and rfl (ev2 rfl) (ev3 rfl (fun _ => rfl))) rfl (by simp only [upd, za, zaa]; exact rfl) ?_
    refine zag rfl rfl (op_or rfl (ev1 rfl) (ev3 rfl (fun _ => rfl))) ?_
    refine lex_nil ?_
    refine dwp_if_f rfl (by simp) ?_
    refine dwp_skip ?_
    refine zae ?_
    refine zad ?_
    refine zab rfl rfl rfl (op_ldmw rfl tb24 (ev1 rfl) rfl rfl) ?_
    refine walk_w rfl rfl rfl (dop_call [2] [] [] rfl (ev1 rfl) (ec (ev1 rfl) en) rfl rfl (of_od w h T hc) rfl rfl rfl rfl rfl rfl) (by simp only [upd, za, zaa]; exact rfl) ?_
    refine zab rfl rfl rfl (zac (.inl rfl) (ev1 rfl)) ?_
    refine zab rfl rfl rfl (op_ext rfl (ev1 rfl) rfl) ?_
    refine zab rfl rfl rfl (op_ext rfl (ev1 rfl) rfl) ?_
    refine zab rfl rfl rfl (zac (.inr rfl) (ev1 rfl)) ?_
    refine zab rfl rfl rfl (zac (.inr rfl) (ev1 rfl)) ?_
    refine zaf ?_
    refine zae ?_
    by_cases hother : rightB w2 h2 U = true
    · have hd := rightB_ok hother
      refine zad ?_
      refine zab rfl rfl rfl (op_ldmw rfl tb24 (ev1 rfl) rfl rfl) ?_
      refine zab rfl rfl rfl (dop_call [] [] [] rfl (ev1 rfl) (ec (ev1 rfl) en) rfl rfl (of_d w2 h2 U hd) rfl rfl rfl rfl rfl rfl) ?_
      refine zab rfl rfl rfl (zac (.inl rfl) (ev1 rfl)) ?_
      refine zab rfl rfl rfl (op_ext rfl (ev1 rfl) rfl) ?_
      refine zab rfl rfl rfl (op_ext rfl (ev1 rfl) rfl) ?_
      refine zab rfl rfl rfl (zac (.inr rfl) (ev1 rfl)) ?_
      refine zab rfl rfl rfl (zac (.inr rfl) (ev1 rfl)) ?_
      refine zaf ?_
      refine zae ?_
      refine zae ?_
      refine zad ?_
      refine zab rfl rfl rfl (zac (.inl rfl) (ev1 rfl)) ?_
      refine zab rfl rfl rfl (op_not rfl (ev1 rfl)) ?_
      refine zaf ?_
      refine dwp_if_f rfl (by rw [hright]; rfl) ?_
      refine dwp_skip ?_
      refine zae ?_
      refine zae ?_
      refine zad ?_
      refine zab rfl rfl rfl (zac (.inl rfl) (ev1 rfl)) ?_
      refine zab rfl rfl rfl ((op_neq rfl (ev1 rfl) (ev1 rfl)).cast (d' := .val (.bool false)) (by kernel_rfl)) ?_
      refine zab rfl rfl rfl (zac (.inl rfl) (ev1 rfl)) ?_
      refine walk_k (gd_f (b := false) rfl rfl rfl) rfl rfl rfl (zac (.inl rfl) (ev1 rfl)) (by simp only [upd, za, zaa]; exact rfl) ?_
      refine walk_k (gd_f (b := false) rfl rfl rfl) rfl rfl rfl (op_pnilm rfl pt32 (ev2 rfl)) (by simp only [upd, za, zaa]; exact rfl) ?_
      refine zab rfl rfl rfl ((op_or rfl (ev1 rfl) (ev3 rfl (fun _ => rfl))).cast (d' := .val (.bool false)) (by rfl)) ?_
      refine zaf ?_
      refine dwp_if_f rfl (rfl) ?_
      refine dwp_skip ?_
      refine zae ?_
      refine zae ?_
      refine zad ?_
      refine zab rfl rfl rfl (op_fa rfl fo24_2 (ev1 rfl)) ?_
      refine zab rfl rfl rfl (op_ldm rfl tb22 (ev1 rfl) rfl rfl) ?_
      refine zab rfl rfl rfl (op_lena rfl sl22 (ev1 rfl) rfl) ?_
      refine zab rfl rfl rfl (zac (.inl rfl) (ev1 rfl)) ?_
      refine zaf ?_
      refine dwp_block ?_
      refine dwp_loopS ⟨hs0, rfl⟩ (α := Nat × List TL) (fun x => [(196, .val (.int .i64 (x.1 : Int)))]) [(2, _), (3, _), (7, _), (8, _), (10, _), (15, _), (17, _), (195, _)] (fun x => [(2, .arr 52 256 T.length (x.2.flatMap tc))]) [_, _, .hole, _, _] (fun x => x.1 ≤ T.length ∧ x.2.length = T.length) (fun x => T.length - x.1) (0, T) [0, 1, 2, 3, 4] (⟨Nat.zero_le _, rfl⟩) rfl ⟨rfl, rfl, rfl, rfl, rfl, rfl, rfl, rfl, trivial⟩ ⟨rfl, trivial⟩ ⟨rfl, rfl, rfl, rfl, rfl, trivial⟩ ?_
      intro x hx
      simp only [upd, za, zaa, List.cons_append, List.nil_append]
      obtain ⟨k, V⟩ := x
      obtain ⟨hk, hV⟩ := hx
      dsimp only at hk hV ⊢
      refine zae ?_
      refine zad ?_
      refine zab rfl rfl rfl (op_lss rfl (ev1 rfl) (ev1 rfl)) ?_
      refine zaf ?_
      refine zae ?_
      refine dwp_cond rfl (fun c6 => ?_) (fun c6 => ?_)
      · try simp only [yg, ya, beq_iff_eq, bne_iff_ne, yb, yc, yf, ye, yh, yi, yd, ne_eq, yj, Int.not_lt, Int.not_le] at c6
        refine dwp_skip ?_
        refine zae ?_
        refine dwp_block ?_
        refine zae ?_
        refine zad ?_
        refine zab rfl rfl rfl (zac (.inl rfl) (ev1 rfl)) ?_
        refine zab rfl rfl rfl (zac (.inr rfl) (ev1 rfl)) ?_
        refine zaf ?_
        refine dwp_draw [([], []), ([3], []), ([], []), ([2], []), ([], []), ([], []), ([2], []), ([], []), ([2], []), ([], []), ([], []), ([2], [2])] mixed (by kernel_rfl) ?_
        refine zag rfl rfl (op_fa rfl fo24_2 (ev1 rfl)) ?_
        refine zag rfl rfl (op_ldm rfl tb22 (ev1 rfl) rfl rfl) ?_
        refine zag rfl rfl (zac (.inl rfl) (ev1 rfl)) ?_
        refine zag rfl rfl (op_ixar (j := k) rfl sl22 (ev1 rfl) (ev1 rfl) rfl (fun _ => by first | rfl | omega) (fun _ => by omega)) ?_
        refine zag rfl rfl (op_ixal rfl ar52 (ev1 rfl) (ev1 rfl) (fun _ => by omega)) ?_
        refine zag rfl rfl (op_faa rfl fo40_0 (ev1 rfl)) ?_
        refine zag rfl rfl (op_ldoa rfl tb5 (ev1 rfl) rfl (get_tr (j := k) (q := 0) (c := 0) (by omega) (by decide) (by decide) rfl)) ?_
        refine zag rfl rfl (op_add rfl (ev1 rfl) (ev1 rfl)) ?_
        refine zag rfl rfl (op_ixar (j := k) rfl sl22 (ev1 rfl) (ev1 rfl) rfl (fun _ => by first | rfl | omega) (fun _ => by omega)) ?_
        refine zag rfl rfl (op_ixal rfl ar52 (ev1 rfl) (ev1 rfl) (fun _ => by omega)) ?_
        refine zag rfl rfl (op_faa rfl fo40_0 (ev1 rfl)) ?_
        refine lex_s rfl rfl (op_sta rfl tb5 (ev1 rfl) (ev1 rfl) rfl rfl rfl (by rfl) (by rw [flat_len tc_len]; simp [Value.cells]; omega) (setL_tr (j := k) (q := 0) (by omega) (by decide))) rfl (by simp only [upd, za, zaa]; exact rfl) ?_
        refine lex_nil ?_
        refine zad ?_
        refine zab rfl rfl rfl (op_add' rfl (ev1 rfl) (ev1 rfl) (fun _ => IntWalk.i64_in _ (by omega))) ?_
        refine zab rfl rfl rfl (zac (.inl rfl) (ev1 rfl)) ?_
        refine zaf ?_
        refine ⟨(k + 1, V.set k ((V.getD k zT).set 0 { (V.getD k zT).get 0 with r := IntKind.u8.wrap (((V.getD k zT).get 0).r + 1) })), [0, 1, 2, 3, 4], ⟨by dsimp only; omega, by dsimp only; rw [List.length_set]; exact hV⟩, by dsimp only; omega, rfl, ⟨rfl, rfl, rfl, rfl, rfl, rfl, rfl, rfl, rfl, trivial⟩, ⟨rfl, rfl, rfl, rfl, rfl, trivial⟩⟩
      · try simp only [yg, ya, beq_iff_eq, bne_iff_ne, yb, yc, yf, ye, yh, yi, yd, ne_eq, yj, Int.not_lt, Int.not_le] at c6
        refine dwp_exit ?_
        refine zae ?_
        refine dwp_holes 2 (by simp only [holes, List.cons_append, List.nil_append]; exact rfl) ?_
        refine zad ?_
        refine zab rfl rfl rfl (zac (.inl rfl) (ev1 rfl)) ?_
        refine walk_w rfl rfl rfl (dop_call [] [] [5] rfl (ev1 rfl) (ec (ev1 rfl) en) rfl rfl (show_o w h _ _ (dpR_ok _) hc) rfl rfl rfl rfl rfl rfl) (by simp only [upd, za, zaa]; exact rfl) ?_
        refine walk_w rfl rfl rfl (op_alloc 6 rfl zr24 rfl) (by simp only [upd, za, zaa]; exact rfl) ?_
        refine walk_s rfl rfl (op_stam rfl tb24 (ev1 rfl) (ev1 rfl) rfl rfl rfl rfl) (by simp only [upd, za, zaa]; exact rfl) ?_
        refine zaf ?_
        refine zae ?_
        refine zae ?_
        refine zad ?_
        refine zab rfl rfl rfl (op_fa rfl fo24_2 (ev1 rfl)) ?_
        refine zab rfl rfl rfl (op_ldm rfl tb22 (ev1 rfl) rfl rfl) ?_
        refine zab rfl rfl rfl (op_lena rfl sl22 (ev1 rfl) rfl) ?_
        refine zab rfl rfl rfl (zac (.inl rfl) (ev1 rfl)) ?_
        refine zaf ?_
        refine dwp_block ?_
        refine dwp_loopS ⟨hs0, rfl⟩ (α := Nat × List TL) (fun x => [(216, .val (.int .i64 (x.1 : Int)))]) [(2, _), (3, _), (7, _), (8, _), (10, _), (15, _), (17, _), (24, _), (215, _)] (fun x => [(5, .arr 52 256 T.length (x.2.flatMap tc))]) [_, _, _, _, _, .hole, _] (fun x => x.1 ≤ T.length ∧ x.2.length = T.length) (fun x => T.length - x.1) (0, T) [0, 1, 2, 3, 4, 5, 6] (⟨Nat.zero_le _, rfl⟩) rfl ⟨rfl, rfl, rfl, rfl, rfl, rfl, rfl, rfl, rfl, trivial⟩ ⟨rfl, trivial⟩ ⟨rfl, rfl, rfl, rfl, rfl, rfl, rfl, trivial⟩ ?_
        intro x hx
        simp only [upd, za, zaa, List.cons_append, List.nil_append]
        obtain ⟨k, V⟩ := x
        obtain ⟨hk, hV⟩ := hx
        dsimp only at hk hV ⊢
        refine zae ?_
        refine zad ?_
        refine zab rfl rfl rfl (op_lss rfl (ev1 rfl) (ev1 rfl)) ?_
        refine zaf ?_
        refine zae ?_
        refine dwp_cond rfl (fun c7 => ?_) (fun c7 => ?_)
        · try simp only [yg, ya, beq_iff_eq, bne_iff_ne, yb, yc, yf, ye, yh, yi, yd, ne_eq, yj, Int.not_lt, Int.not_le] at c7
          refine dwp_skip ?_
          refine zae ?_
          refine dwp_block ?_
          refine zae ?_
          refine zad ?_
          refine zab rfl rfl rfl (zac (.inl rfl) (ev1 rfl)) ?_
          refine zab rfl rfl rfl (zac (.inr rfl) (ev1 rfl)) ?_
          refine zaf ?_
          refine dwp_draw [([], []), ([6], []), ([], []), ([5], []), ([], []), ([], []), ([5], []), ([], []), ([5], []), ([], []), ([], []), ([5], [5])] mixed (by kernel_rfl) ?_
          refine zag rfl rfl (op_fa rfl fo24_2 (ev1 rfl)) ?_
          refine zag rfl rfl (op_ldm rfl tb22 (ev1 rfl) rfl rfl) ?_
          refine zag rfl rfl (zac (.inl rfl) (ev1 rfl)) ?_
          refine zag rfl rfl (op_ixar (j := k) rfl sl22 (ev1 rfl) (ev1 rfl) rfl (fun _ => by first | rfl | omega) (fun _ => by omega)) ?_
          refine zag rfl rfl (op_ixal rfl ar52 (ev1 rfl) (ev1 rfl) (fun _ => by omega)) ?_
          refine zag rfl rfl (op_faa rfl fo40_1 (ev1 rfl)) ?_
          refine zag rfl rfl (op_ldoa rfl tb5 (ev1 rfl) rfl (get_tr (j := k) (q := 1) (c := 1) (by omega) (by decide) (by decide) rfl)) ?_
          refine zag rfl rfl (op_add rfl (ev1 rfl) (ev1 rfl)) ?_
          refine zag rfl rfl (op_ixar (j := k) rfl sl22 (ev1 rfl) (ev1 rfl) rfl (fun _ => by first | rfl | omega) (fun _ => by omega)) ?_
          refine zag rfl rfl (op_ixal rfl ar52 (ev1 rfl) (ev1 rfl) (fun _ => by omega)) ?_
          refine zag rfl rfl (op_faa rfl fo40_1 (ev1 rfl)) ?_
          refine lex_s rfl rfl (op_sta rfl tb5 (ev1 rfl) (ev1 rfl) rfl rfl rfl (by rfl) (by rw [flat_len tc_len]; simp [Value.cells]; omega) (setL_tg (j := k) (q := 1) (by omega) (by decide))) rfl (by simp only [upd, za, zaa]; exact rfl) ?_
          refine lex_nil ?_
          refine zad ?_
          refine zab rfl rfl rfl (op_add' rfl (ev1 rfl) (ev1 rfl) (fun _ => IntWalk.i64_in _ (by omega))) ?_
          refine zab rfl rfl rfl (zac (.inl rfl) (ev1 rfl)) ?_
          refine zaf ?_
          refine ⟨(k + 1, V.set k ((V.getD k zT).set 1 { (V.getD k zT).get 1 with g := IntKind.u8.wrap (((V.getD k zT).get 1).g + 1) })), [0, 1, 2, 3, 4, 5, 6], ⟨by dsimp only; omega, by dsimp only; rw [List.length_set]; exact hV⟩, by dsimp only; omega, rfl, ⟨rfl, rfl, rfl, rfl, rfl, rfl, rfl, rfl, rfl, rfl, trivial⟩, ⟨rfl, rfl, rfl, rfl, rfl, rfl, rfl, trivial⟩⟩
        · try simp only [yg, ya, beq_iff_eq, bne_iff_ne, yb, yc, yf, ye, yh, yi, yd, ne_eq, yj, Int.not_lt, Int.not_le] at c7
          refine dwp_exit ?_
          refine zae ?_
          refine zad ?_
          refine zab rfl rfl rfl (op_ldmw rfl tb24 (ev1 rfl) rfl rfl) ?_
          refine zab rfl rfl rfl (dop_call [] [] [] rfl (ev1 rfl) (ec (ev1 rfl) en) rfl rfl ((by rw [hT]; exact own_d w h xs : DFun Try.prog 9 [shD w h xs] [] (shD w h T) [])) rfl rfl rfl rfl rfl rfl) ?_
          refine walk_s rfl rfl (op_stmw rfl tb24 (ev1 rfl) (ev1 rfl) rfl rfl rfl rfl) (by simp only [upd, za, zaa]; exact rfl) ?_
          refine zaf ?_
          refine zae ?_
          refine zad ?_
          refine zab rfl rfl rfl (zac (.inl rfl) (ev1 rfl)) ?_
          refine zab rfl rfl rfl (dop_call [] [] [] rfl (ev1 rfl) (ec (ev1 rfl) en) rfl rfl (size_d w h _ _ (dpR_ok _) hc) rfl rfl rfl rfl rfl rfl) ?_
          refine zab rfl rfl rfl (zac (.inl rfl) (ev1 rfl)) ?_
          refine zab rfl rfl rfl (op_ext rfl (ev1 rfl) rfl) ?_
          refine zab rfl rfl rfl (op_ext rfl (ev1 rfl) rfl) ?_
          refine zab rfl rfl rfl (zac (.inr rfl) (ev1 rfl)) ?_
          refine zab rfl rfl rfl (zac (.inr rfl) (ev1 rfl)) ?_
          refine zaf ?_
          refine zae ?_
          refine zad ?_
          refine zab rfl rfl rfl (zac (.inr rfl) (ev1 rfl)) ?_
          refine zaf ?_
          refine zae ?_
          refine zae ?_
          by_cases hsz : w = w2 ∧ h = h2
          · obtain ⟨rfl, rfl⟩ := hsz
            refine zad ?_
            refine zab rfl rfl rfl (zac (.inl rfl) (ev1 rfl)) ?_
            refine zab rfl rfl rfl (zac (.inl rfl) (ev1 rfl)) ?_
            refine walk_gr (gd_t rfl rfl rfl) rfl rfl rfl (op_fa rfl fo24_0 (ev1 rfl)) ?_
            refine walk_gr (gd_t rfl rfl rfl) rfl rfl rfl (op_ldm rfl tb3 (ev2 rfl) rfl rfl) ?_
            refine walk_gr (gd_t rfl rfl rfl) rfl rfl rfl (op_fa rfl fo24_0 (ev1 rfl)) ?_
            refine walk_gr (gd_t rfl rfl rfl) rfl rfl rfl (op_ldm rfl tb3 (ev2 rfl) rfl rfl) ?_
            refine walk_gr (gd_t rfl rfl rfl) rfl rfl rfl (op_eql rfl (ev2 rfl) (ev2 rfl)) ?_
            refine zab rfl rfl rfl (op_and rfl (ev1 rfl) (ev3 rfl id)) ?_
            refine zab rfl rfl rfl (zac (.inl rfl) (ev1 rfl)) ?_
            refine walk_gr (gd_t rfl rfl rfl) rfl rfl rfl (op_fa rfl fo24_1 (ev1 rfl)) ?_
            refine walk_gr (gd_t rfl rfl rfl) rfl rfl rfl (op_ldm rfl tb3 (ev2 rfl) rfl rfl) ?_
            refine walk_gr (gd_t rfl rfl rfl) rfl rfl rfl (op_fa rfl fo24_1 (ev1 rfl)) ?_
            refine walk_gr (gd_t rfl rfl rfl) rfl rfl rfl (op_ldm rfl tb3 (ev2 rfl) rfl rfl) ?_
            refine walk_gr (gd_t rfl rfl rfl) rfl rfl rfl (op_eql rfl (ev2 rfl) (ev2 rfl)) ?_
            refine zab rfl rfl rfl (op_and rfl (ev1 rfl) (ev3 rfl id)) ?_
            refine zaf ?_
            refine dwp_if_t rfl (by simp [hother]) ?_
            refine zad ?_
            refine zab rfl rfl rfl (op_ldmw rfl tb24 (ev1 rfl) rfl rfl) ?_
            refine zab rfl rfl rfl (op_ldmw rfl tb24 (ev1 rfl) rfl rfl) ?_
            refine zab rfl rfl rfl (dop_call [] [] [] rfl (ev1 rfl) (ec (ev1 rfl) (ec (ev1 rfl) en)) rfl rfl (rdiffer_d w h T U hc hd) rfl rfl rfl rfl rfl rfl) ?_
            refine zab rfl rfl rfl (zac (.inr rfl) (ev1 rfl)) ?_
            refine zaf ?_
            refine zae ?_
            refine zae ?_
            refine dwp_draw [([], []), ([], []), ([3], []), ([], []), ([], []), ([], []), ([], []), ([], []), ([3], []), ([], []), ([], []), ([], []), ([], []), ([], []), ([], []), ([3], []), ([], []), ([], []), ([], []), ([], []), ([], []), ([], []), ([], []), ([], []), ([], []), ([3], []), ([4], []), ([], []), ([], []), ([], []), ([], []), ([], []), ([], []), ([], []), ([], []), ([], []), ([], []), ([], []), ([], [])] mixed (by kernel_rfl) ?_
            refine zag rfl rfl (zac (.inl rfl) (ev1 rfl)) ?_
            refine zag rfl rfl (dop_call [] [] [] rfl (ev1 rfl) (ec (ev1 rfl) en) rfl rfl (show_d w h _ _ (dpR_ok _) hc) rfl rfl rfl rfl rfl rfl) ?_
            refine zag rfl rfl (op_ldmw rfl tb24 (ev1 rfl) rfl rfl) ?_
            refine zag rfl rfl (dop_call [] [] [] rfl (ev1 rfl) (ec (ev1 rfl) (ec (ev1 rfl) en)) rfl rfl (same_d _ _ _ _ _ _ (by omega)) rfl rfl rfl rfl rfl rfl) ?_
            refine zag rfl rfl (op_not rfl (ev1 rfl)) ?_
            refine zag rfl rfl (zac (.inl rfl) (ev1 rfl)) ?_
            refine lex_gr (gd_f rfl rfl rfl) rfl rfl (zac (.inl rfl) (ev1 rfl)) ?_
            refine lex_gr (gd_f rfl rfl rfl) rfl rfl (op_fa rfl fo24_0 (ev1 rfl)) ?_
            refine lex_gr (gd_f rfl rfl rfl) rfl rfl (op_ldm rfl tb3 (ev2 rfl) rfl rfl) ?_
            refine lex_gr (gd_f rfl rfl rfl) rfl rfl (op_mul' rfl (ev1 rfl) (ev2 rfl) (fun hp => IntWalk.i64_in _ (by first | omega | (simp at hp; omega)))) ?_
            refine lex_gr (gd_f rfl rfl rfl) rfl rfl (op_neq rfl (ev2 rfl) (ev2 rfl)) ?_
            refine zag rfl rfl (op_or rfl (ev1 rfl) (ev3 rfl id)) ?_
            refine zag rfl rfl (zac (.inl rfl) (ev1 rfl)) ?_
            refine lex_gr (gd_f rfl rfl rfl) rfl rfl (zac (.inl rfl) (ev1 rfl)) ?_
            refine lex_gr (gd_f rfl rfl rfl) rfl rfl (op_fa rfl fo24_1 (ev1 rfl)) ?_
            refine lex_gr (gd_f rfl rfl rfl) rfl rfl (op_ldm rfl tb3 (ev2 rfl) rfl rfl) ?_
            refine lex_gr (gd_f rfl rfl rfl) rfl rfl (op_mul' rfl (ev1 rfl) (ev2 rfl) (fun hp => IntWalk.i64_in _ (by first | omega | (simp at hp; omega)))) ?_
            refine lex_gr (gd_f rfl rfl rfl) rfl rfl (op_neq rfl (ev2 rfl) (ev2 rfl)) ?_
            refine zag rfl rfl (op_or rfl (ev1 rfl) (ev3 rfl id)) ?_
            refine zag rfl rfl (zac (.inl rfl) (ev1 rfl)) ?_
            refine lex_gr (gd_f rfl rfl rfl) rfl rfl (zac (.inl rfl) (ev1 rfl)) ?_
            refine lex_gr (gd_f rfl rfl rfl) rfl rfl (zac (.inl rfl) (ev1 rfl)) ?_
            refine lex_gr (gd_f rfl rfl rfl) rfl rfl (dop_call [] [] [] rfl (ev1 rfl) (ec (ev2 rfl) (ec (ev2 rfl) en)) rfl rfl (same_cv w h _ _ _ _ (dpR_ok _) (dpR_ok _) hc hd) rfl rfl rfl rfl rfl rfl) ?_
            refine lex_gr (gd_f rfl rfl rfl) rfl rfl (zac (.inl rfl) (ev1 rfl)) ?_
            refine lex_gr (gd_f rfl rfl rfl) rfl rfl (zac (.inl rfl) (ev2 rfl)) ?_
            refine lex_gr (gd_tt rfl rfl rfl) rfl rfl (op_ldmw rfl tb24 (ev1 rfl) rfl rfl) ?_
            refine lex_gr (gd_tt rfl rfl rfl) rfl rfl (op_ldmw rfl tb24 (ev1 rfl) rfl rfl) ?_
            refine lex_gr (gd_tt rfl rfl rfl) rfl rfl (dop_call [] [] [] rfl (ev1 rfl) (ec (ev2 rfl) (ec (ev2 rfl) en)) rfl rfl (same_d _ _ _ _ _ _ (by omega)) rfl rfl rfl rfl rfl rfl) ?_
            refine lex_gr (gd_f rfl rfl rfl) rfl rfl (op_and rfl (ev2 rfl) (ev2 rfl)) ?_
            refine lex_gr (gd_f rfl rfl rfl) rfl rfl (op_neb rfl un4 (ev2 rfl) (ev2 rfl)) ?_
            refine zag rfl rfl (op_or rfl (ev1 rfl) (ev3 rfl id)) ?_
            refine zag rfl rfl (zac (.inl rfl) (ev1 rfl)) ?_
            refine lex_gr (gd_f rfl rfl rfl) rfl rfl (zac (.inl rfl) (ev1 rfl)) ?_
            refine lex_gr (gd_f rfl rfl rfl) rfl rfl (zac (.inl rfl) (ev1 rfl)) ?_
            refine lex_gr (gd_f rfl rfl rfl) rfl rfl (dop_call [] [] [] rfl (ev1 rfl) (ec (ev2 rfl) (ec (ev2 rfl) en)) rfl rfl (differ_d w h _ _ _ _ (dpR_ok _) (dpR_ok _) hc hd) rfl rfl rfl rfl rfl rfl) ?_
            refine lex_gr (gd_f rfl rfl rfl) rfl rfl (zac (.inl rfl) (ev1 rfl)) ?_
            refine lex_gr (gd_f rfl rfl rfl) rfl rfl (dop_call [] [] [] rfl (ev1 rfl) (ec (ev2 rfl) (ec (ev2 rfl) en)) rfl rfl (equalP _ _) rfl rfl rfl rfl rfl rfl) ?_
            refine lex_gr (gd_f rfl rfl rfl) rfl rfl (op_not rfl (ev2 rfl)) ?_
            refine zag rfl rfl (op_or rfl (ev1 rfl) (ev3 rfl id)) ?_
            refine lex_nil ?_
            refine dwp_if_f rfl (by simp [hother]; omega) ?_
            refine dwp_skip ?_
            refine zae ?_
            refine zae ?_
            refine zad ?_
            refine zab rfl rfl rfl (zac (.inl rfl) (ev1 rfl)) ?_
            refine zab rfl rfl rfl (op_len rfl sl25 (ev1 rfl)) ?_
            refine zab rfl rfl rfl (zac (.inl rfl) (ev1 rfl)) ?_
            refine zaf ?_
            refine dwp_block ?_
            refine dwp_loopS ⟨hs0, rfl⟩ (α := Nat) (fun k => [(297, .val (.int .i64 (k : Int)))]) [(7, _), (15, _), (295, _), (296, _)] (fun k => []) [_, _, _, _, _, _, _] (fun k => k ≤ l.length) (fun k => l.length - k) 0 [0, 1, 2, 3, 4, 5, 6] (Nat.zero_le _) rfl ⟨rfl, rfl, rfl, rfl, trivial⟩ ⟨rfl, trivial⟩ ⟨rfl, rfl, rfl, rfl, rfl, rfl, rfl, trivial⟩ ?_
            intro k hx
            simp only [upd, za, zaa, List.cons_append, List.nil_append]
            have hk := hx
            refine zae ?_
            refine zad ?_
            refine zab rfl rfl rfl (op_lss rfl (ev1 rfl) (ev1 rfl)) ?_
            refine zaf ?_
            refine zae ?_
            refine dwp_cond rfl (fun c10 => ?_) (fun c10 => ?_)
            · try simp only [yg, ya, beq_iff_eq, bne_iff_ne, yb, yc, yf, ye, yh, yi, yd, ne_eq, yj, Int.not_lt, Int.not_le] at c10
              refine dwp_skip ?_
              refine zae ?_
              refine dwp_block ?_
              refine zae ?_
              refine dwp_holes 1 (by simp only [holes, List.cons_append, List.nil_append]; exact rfl) ?_
              refine zad ?_
              refine zab rfl rfl rfl (zac (.inl rfl) (ev1 rfl)) ?_
              refine zab rfl rfl rfl (op_ixsr (j := k) rfl sl25 (ev1 rfl) (ev1 rfl) (fun _ => rfl) (by decide) (by omega) (by omega)) ?_
              refine zab rfl rfl rfl (op_ldwd rfl tb56 (ev1 rfl) rfl) ?_
              refine walk_w rfl rfl rfl (op_alloc 7 rfl zr56 rfl) (by simp only [upd, za, zaa]; exact rfl) ?_
              refine zab rfl rfl rfl (zac (.inr rfl) (ev1 rfl)) ?_
              refine walk_s rfl rfl (op_stwa rfl tb56 (ev1 rfl) (ev1 rfl) rfl rfl rfl rfl) (by simp only [upd, za, zaa]; exact rfl) ?_
              refine zaf ?_
              refine zae ?_
              refine zae ?_
              refine zad ?_
              refine zab rfl rfl rfl (zac (.inl rfl) (ev1 rfl)) ?_
              refine zab rfl rfl rfl (op_eql rfl (ev1 rfl) (ev1 rfl)) ?_
              refine zaf ?_
              refine dwp_cond rfl (fun c11 => ?_) (fun c11 => ?_)
              · try simp only [yg, ya, beq_iff_eq, bne_iff_ne, yb, yc, yf, ye, yh, yi, yd, ne_eq, yj, Int.not_lt, Int.not_le] at c11
                refine dwp_exit ?_
                refine zae ?_
                refine zad ?_
                refine zab rfl rfl rfl (zac (.inr rfl) (ev1 rfl)) ?_
                refine zaf ?_
                refine dwp_ret ?_
                refine kend0 (rs1 rfl (rv_t rfl)) rfl ?_
                first | rfl | simp [hother]
              · try simp only [yg, ya, beq_iff_eq, bne_iff_ne, yb, yc, yf, ye, yh, yi, yd, ne_eq, yj, Int.not_lt, Int.not_le] at c11
                refine dwp_skip ?_
                refine zae ?_
                refine dwp_holes 1 (by simp only [holes, List.cons_append, List.nil_append]; exact rfl) ?_
                refine zad ?_
                refine zab rfl rfl rfl (zac (.inl rfl) (ev1 rfl)) ?_
                refine zab rfl rfl rfl (op_fa rfl fo56_0 (ev1 rfl)) ?_
                refine zab rfl rfl rfl (op_ldo rfl tb3 (ev1 rfl) rfl rfl) ?_
                refine zab rfl rfl rfl (op_fa rfl fo56_1 (ev1 rfl)) ?_
                refine zab rfl rfl rfl (op_ldo rfl tb3 (ev1 rfl) rfl rfl) ?_
                refine zab rfl rfl rfl (dop_call [] [] [] rfl (ev1 rfl) (ec (ev1 rfl) (ec (ev1 rfl) (ec (ev1 rfl) en))) rfl rfl (at_d w h _ _ (dpR_ok _) hc l[k].x l[k].y) rfl rfl rfl rfl rfl rfl) ?_
                refine zab rfl rfl rfl (zac (.inl rfl) (ev1 rfl)) ?_
                refine zab rfl rfl rfl (op_ext rfl (ev1 rfl) rfl) ?_
                refine zab rfl rfl rfl (op_ext rfl (ev1 rfl) rfl) ?_
                refine walk_w rfl rfl rfl (op_alloc 8 rfl zr40 rfl) (by simp only [upd, za, zaa]; exact rfl) ?_
                refine walk_s rfl rfl (op_stwa rfl tb40 (ev1 rfl) (ev1 rfl) rfl rfl rfl rfl) (by simp only [upd, za, zaa]; exact rfl) ?_
                refine zab rfl rfl rfl (zac (.inr rfl) (ev1 rfl)) ?_
                refine zaf ?_
                refine zae ?_
                refine dwp_holes 1 (by simp only [holes, List.cons_append, List.nil_append]; exact rfl) ?_
                refine zad ?_
                refine zab rfl rfl rfl ((op_build0 rfl fl40 zr40).cast (d' := .val (.agg (c4 zC4).toArray)) (rfl)) ?_
                refine walk_w rfl rfl rfl (op_alloc 9 rfl zr40 rfl) (by simp only [upd, za, zaa]; exact rfl) ?_
                refine walk_s rfl rfl (op_stwa rfl tb40 (ev1 rfl) (ev1 rfl) rfl rfl rfl rfl) (by simp only [upd, za, zaa]; exact rfl) ?_
                refine zaf ?_
                refine zae ?_
                refine zad ?_
                refine zab rfl rfl rfl (op_ldmw rfl tb24 (ev1 rfl) rfl rfl) ?_
                refine zab rfl rfl rfl (op_fa rfl fo56_0 (ev1 rfl)) ?_
                refine zab rfl rfl rfl (op_ldo rfl tb3 (ev1 rfl) rfl rfl) ?_
                refine zab rfl rfl rfl (op_fa rfl fo56_1 (ev1 rfl)) ?_
                refine zab rfl rfl rfl (op_ldo rfl tb3 (ev1 rfl) rfl rfl) ?_
                refine zab rfl rfl rfl (dop_call [] [] [] rfl (ev1 rfl) (ec (ev1 rfl) (ec (ev1 rfl) (ec (ev1 rfl) en))) rfl rfl (on_d w h T l[k].x l[k].y hc) rfl rfl rfl rfl rfl rfl) ?_
                refine zab rfl rfl rfl (zac (.inr rfl) (ev1 rfl)) ?_
                refine zaf ?_
                refine zae ?_
                refine zae ?_
                refine zad ?_
                refine zab rfl rfl rfl (zac (.inl rfl) (ev1 rfl)) ?_
                refine zaf ?_
                refine dwp_cond rfl (fun c2 => ?_) (fun c2 => ?_)
                · have ho : onS w h l[k].x l[k].y = true := by simpa using c2
                  refine zad ?_
                  refine zab rfl rfl rfl (op_ldmw rfl tb24 (ev1 rfl) rfl rfl) ?_
                  refine zab rfl rfl rfl (op_fa rfl fo56_0 (ev1 rfl)) ?_
                  refine zab rfl rfl rfl (op_ldo rfl tb3 (ev1 rfl) rfl rfl) ?_
                  refine zab rfl rfl rfl (op_fa rfl fo56_1 (ev1 rfl)) ?_
                  refine zab rfl rfl rfl (op_ldo rfl tb3 (ev1 rfl) rfl rfl) ?_
                  refine zab rfl rfl rfl (dop_call [] [] [] rfl (ev1 rfl) (ec (ev1 rfl) (ec (ev1 rfl) (ec (ev1 rfl) en))) rfl rfl (rat_d w h T l[k].x l[k].y hc ho) rfl rfl rfl rfl rfl rfl) ?_
                  refine walk_s rfl rfl (op_stwa rfl tb40 (ev1 rfl) (ev1 rfl) rfl rfl rfl rfl) (by simp only [upd, za, zaa]; exact rfl) ?_
                  refine zaf ?_
                  refine zae ?_
                  refine zad ?_
                  refine zab rfl rfl rfl (op_ldw rfl tb40 (ev1 rfl) rfl rfl) ?_
                  refine zab rfl rfl rfl (op_ldw rfl tb40 (ev1 rfl) rfl rfl) ?_
                  refine zab rfl rfl rfl (op_ner eq40 rfl gd40 tb40 (ev1 rfl) (ev1 rfl)) ?_
                  refine zab rfl rfl rfl (zac (.inl rfl) (ev1 rfl)) ?_
                  refine walk_gr (gd_f rfl rfl rfl) rfl rfl rfl (zac (.inl rfl) (ev1 rfl)) ?_
                  refine walk_gr (gd_f rfl rfl rfl) rfl rfl rfl (zac (.inl rfl) (ev1 rfl)) ?_
                  refine walk_gr (gd_f rfl rfl rfl) rfl rfl rfl (op_neb rfl un4 (ev2 rfl) (ev2 rfl)) ?_
                  refine zab rfl rfl rfl (op_or rfl (ev1 rfl) (ev3 rfl id)) ?_
                  refine zaf ?_
                  refine dwp_if_f rfl (by simp [ho]) ?_
                  refine dwp_skip ?_
                  refine zad ?_
                  refine zab rfl rfl rfl (op_add' rfl (ev1 rfl) (ev1 rfl) (fun _ => IntWalk.i64_in _ (by omega))) ?_
                  refine zab rfl rfl rfl (zac (.inl rfl) (ev1 rfl)) ?_
                  refine zaf ?_
                  refine ⟨k + 1, [0, 1, 2, 3, 4, 5, 6], by omega, by simp only []; omega, rfl, ⟨rfl, rfl, rfl, rfl, rfl, trivial⟩, ⟨rfl, rfl, rfl, rfl, rfl, rfl, rfl, trivial⟩⟩
                · have ho : onS w h l[k].x l[k].y = false := by simpa using c2
                  refine dwp_skip ?_
                  refine zae ?_
                  refine zad ?_
                  refine zab rfl rfl rfl (op_ldw rfl tb40 (ev1 rfl) rfl rfl) ?_
                  refine zab rfl rfl rfl (op_ldw rfl tb40 (ev1 rfl) rfl rfl) ?_
                  refine zab rfl rfl rfl (op_ner eq40 rfl gd40 tb40 (ev1 rfl) (ev1 rfl)) ?_
                  refine zab rfl rfl rfl (zac (.inl rfl) (ev1 rfl)) ?_
                  refine walk_gr (gd_f rfl rfl rfl) rfl rfl rfl (zac (.inl rfl) (ev1 rfl)) ?_
                  refine walk_gr (gd_f rfl rfl rfl) rfl rfl rfl (zac (.inl rfl) (ev1 rfl)) ?_
                  refine walk_gr (gd_f rfl rfl rfl) rfl rfl rfl (op_neb rfl un4 (ev2 rfl) (ev2 rfl)) ?_
                  refine zab rfl rfl rfl (op_or rfl (ev1 rfl) (ev3 rfl id)) ?_
                  refine zaf ?_
                  refine dwp_if_f rfl (by simp [ho]) ?_
                  refine dwp_skip ?_
                  refine zad ?_
                  refine zab rfl rfl rfl (op_add' rfl (ev1 rfl) (ev1 rfl) (fun _ => IntWalk.i64_in _ (by omega))) ?_
                  refine zab rfl rfl rfl (zac (.inl rfl) (ev1 rfl)) ?_
                  refine zaf ?_
                  refine ⟨k + 1, [0, 1, 2, 3, 4, 5, 6], by omega, by simp only []; omega, rfl, ⟨rfl, rfl, rfl, rfl, rfl, trivial⟩, ⟨rfl, rfl, rfl, rfl, rfl, rfl, rfl, trivial⟩⟩
            · try simp only [yg, ya, beq_iff_eq, bne_iff_ne, yb, yc, yf, ye, yh, yi, yd, ne_eq, yj, Int.not_lt, Int.not_le] at c10
              refine dwp_exit ?_
              refine zae ?_
              refine zad ?_
              refine zab rfl rfl rfl (zac (.inr rfl) (ev1 rfl)) ?_
              refine zaf ?_
              refine dwp_ret ?_
              refine kend0 (rs1 rfl (rv_t rfl)) rfl ?_
              first | rfl | simp [hother]
          · refine zad ?_
            refine zab rfl rfl rfl (zac (.inl rfl) (ev1 rfl)) ?_
            refine zab rfl rfl rfl (zac (.inl rfl) (ev1 rfl)) ?_
            refine walk_gr (gd_t rfl rfl rfl) rfl rfl rfl (op_fa rfl fo24_0 (ev1 rfl)) ?_
            refine walk_gr (gd_t rfl rfl rfl) rfl rfl rfl (op_ldm rfl tb3 (ev2 rfl) rfl rfl) ?_
            refine walk_gr (gd_t rfl rfl rfl) rfl rfl rfl (op_fa rfl fo24_0 (ev1 rfl)) ?_
            refine walk_gr (gd_t rfl rfl rfl) rfl rfl rfl (op_ldm rfl tb3 (ev2 rfl) rfl rfl) ?_
            refine walk_gr (gd_t rfl rfl rfl) rfl rfl rfl (op_eql rfl (ev2 rfl) (ev2 rfl)) ?_
            refine zab rfl rfl rfl (op_and rfl (ev1 rfl) (ev3 rfl id)) ?_
            refine zab rfl rfl rfl (zac (.inl rfl) (ev1 rfl)) ?_
            refine walk_gr (gd_t rfl rfl rfl) rfl rfl rfl (op_fa rfl fo24_1 (ev1 rfl)) ?_
            refine walk_gr (gd_t rfl rfl rfl) rfl rfl rfl (op_ldm rfl tb3 (ev2 rfl) rfl rfl) ?_
            refine walk_gr (gd_t rfl rfl rfl) rfl rfl rfl (op_fa rfl fo24_1 (ev1 rfl)) ?_
            refine walk_gr (gd_t rfl rfl rfl) rfl rfl rfl (op_ldm rfl tb3 (ev2 rfl) rfl rfl) ?_
            refine walk_gr (gd_t rfl rfl rfl) rfl rfl rfl (op_eql rfl (ev2 rfl) (ev2 rfl)) ?_
            refine zab rfl rfl rfl (op_and rfl (ev1 rfl) (ev3 rfl id)) ?_
            refine zaf ?_
            refine dwp_if_f rfl (by simp [hother]; omega) ?_
            refine dwp_skip ?_
            refine zae ?_
            refine zae ?_
            refine dwp_draw [([], []), ([], []), ([3], []), ([], []), ([], []), ([], []), ([], []), ([], []), ([3], []), ([], []), ([], []), ([], []), ([], []), ([], []), ([], []), ([3], []), ([], []), ([], []), ([], []), ([], []), ([], []), ([], []), ([], []), ([], []), ([], []), ([3], []), ([4], []), ([], []), ([], []), ([], []), ([], []), ([], []), ([], []), ([], []), ([], []), ([], []), ([], []), ([], []), ([], [])] mixed (by kernel_rfl) ?_
            refine zag rfl rfl (zac (.inl rfl) (ev1 rfl)) ?_
            refine zag rfl rfl (dop_call [] [] [] rfl (ev1 rfl) (ec (ev1 rfl) en) rfl rfl (show_d w h _ _ (dpR_ok _) hc) rfl rfl rfl rfl rfl rfl) ?_
            refine zag rfl rfl (op_ldmw rfl tb24 (ev1 rfl) rfl rfl) ?_
            refine zag rfl rfl (dop_call [] [] [] rfl (ev1 rfl) (ec (ev1 rfl) (ec (ev1 rfl) en)) rfl rfl (same_d _ _ _ _ _ _ (by omega)) rfl rfl rfl rfl rfl rfl) ?_
            refine zag rfl rfl (op_not rfl (ev1 rfl)) ?_
            refine zag rfl rfl (zac (.inl rfl) (ev1 rfl)) ?_
            refine lex_gr (gd_f rfl rfl rfl) rfl rfl (zac (.inl rfl) (ev1 rfl)) ?_
            refine lex_gr (gd_f rfl rfl rfl) rfl rfl (op_fa rfl fo24_0 (ev1 rfl)) ?_
            refine lex_gr (gd_f rfl rfl rfl) rfl rfl (op_ldm rfl tb3 (ev2 rfl) rfl rfl) ?_
            refine lex_gr (gd_f rfl rfl rfl) rfl rfl (op_mul' rfl (ev1 rfl) (ev2 rfl) (fun hp => IntWalk.i64_in _ (by first | omega | (simp at hp; omega)))) ?_
            refine lex_gr (gd_f rfl rfl rfl) rfl rfl (op_neq rfl (ev2 rfl) (ev2 rfl)) ?_
            refine zag rfl rfl (op_or rfl (ev1 rfl) (ev3 rfl id)) ?_
            refine zag rfl rfl (zac (.inl rfl) (ev1 rfl)) ?_
            refine lex_gr (gd_f rfl rfl rfl) rfl rfl (zac (.inl rfl) (ev1 rfl)) ?_
            refine lex_gr (gd_f rfl rfl rfl) rfl rfl (op_fa rfl fo24_1 (ev1 rfl)) ?_
            refine lex_gr (gd_f rfl rfl rfl) rfl rfl (op_ldm rfl tb3 (ev2 rfl) rfl rfl) ?_
            refine lex_gr (gd_f rfl rfl rfl) rfl rfl (op_mul' rfl (ev1 rfl) (ev2 rfl) (fun hp => IntWalk.i64_in _ (by first | omega | (simp at hp; omega)))) ?_
            refine lex_gr (gd_f rfl rfl rfl) rfl rfl (op_neq rfl (ev2 rfl) (ev2 rfl)) ?_
            refine zag rfl rfl (op_or rfl (ev1 rfl) (ev3 rfl id)) ?_
            refine zag rfl rfl (zac (.inl rfl) (ev1 rfl)) ?_
            refine lex_gr (gd_f rfl rfl rfl) rfl rfl (zac (.inl rfl) (ev1 rfl)) ?_
            refine lex_gr (gd_f rfl rfl rfl) rfl rfl (zac (.inl rfl) (ev1 rfl)) ?_
            refine lex_gr (gd_f rfl rfl rfl) rfl rfl (dop_call [] [] [] rfl (ev1 rfl) (ec (ev2 rfl) (ec (ev2 rfl) en)) rfl rfl (same_ne w h w2 h2 _ _ hsz) rfl rfl rfl rfl rfl rfl) ?_
            refine lex_gr (gd_f rfl rfl rfl) rfl rfl (zac (.inl rfl) (ev1 rfl)) ?_
            refine lex_gr (gd_f rfl rfl rfl) rfl rfl (zac (.inl rfl) (ev2 rfl)) ?_
            refine lex_gr (gd_tt rfl rfl rfl) rfl rfl (op_ldmw rfl tb24 (ev1 rfl) rfl rfl) ?_
            refine lex_gr (gd_tt rfl rfl rfl) rfl rfl (op_ldmw rfl tb24 (ev1 rfl) rfl rfl) ?_
            refine lex_gr (gd_tt rfl rfl rfl) rfl rfl (dop_call [] [] [] rfl (ev1 rfl) (ec (ev2 rfl) (ec (ev2 rfl) en)) rfl rfl (same_d _ _ _ _ _ _ (by omega)) rfl rfl rfl rfl rfl rfl) ?_
            refine lex_gr (gd_f rfl rfl rfl) rfl rfl (op_and rfl (ev2 rfl) (ev2 rfl)) ?_
            refine lex_gr (gd_f rfl rfl rfl) rfl rfl (op_neb rfl un4 (ev2 rfl) (ev2 rfl)) ?_
            refine zag rfl rfl (op_or rfl (ev1 rfl) (ev3 rfl id)) ?_
            refine zag rfl rfl (zac (.inl rfl) (ev1 rfl)) ?_
            refine lex_gr (gd_f rfl rfl rfl) rfl rfl (zac (.inl rfl) (ev1 rfl)) ?_
            refine lex_gr (gd_f rfl rfl rfl) rfl rfl (zac (.inl rfl) (ev1 rfl)) ?_
            refine lex_gr (gd_f rfl rfl rfl) rfl rfl (dop_call [] [] [] rfl (ev1 rfl) (ec (ev2 rfl) (ec (ev2 rfl) en)) rfl rfl (differ_ne w h w2 h2 _ _ hsz) rfl rfl rfl rfl rfl rfl) ?_
            refine lex_gr (gd_f rfl rfl rfl) rfl rfl (zac (.inl rfl) (ev1 rfl)) ?_
            refine lex_gr (gd_f rfl rfl rfl) rfl rfl (dop_call [] [] [] rfl (ev1 rfl) (ec (evnil 2 (ev2 rfl)) (ec (evnil 2 (ev2 rfl)) en)) rfl rfl (equalP [] []) rfl rfl rfl rfl rfl rfl) ?_
            refine lex_gr (gd_f rfl rfl rfl) rfl rfl (op_not rfl (ev2 rfl)) ?_
            refine zag rfl rfl (op_or rfl (ev1 rfl) (ev3 rfl id)) ?_
            refine lex_nil ?_
            refine dwp_if_f rfl (by simp [hother]; omega) ?_
            refine dwp_skip ?_
            refine zae ?_
            refine zae ?_
            refine zad ?_
            refine zab rfl rfl rfl (zac (.inl rfl) (ev1 rfl)) ?_
            refine zab rfl rfl rfl (op_len rfl sl25 (ev1 rfl)) ?_
            refine zab rfl rfl rfl (zac (.inl rfl) (ev1 rfl)) ?_
            refine zaf ?_
            refine dwp_block ?_
            refine dwp_loopS ⟨hs0, rfl⟩ (α := Nat) (fun k => [(297, .val (.int .i64 (k : Int)))]) [(7, _), (15, _), (295, _), (296, _)] (fun k => []) [_, _, _, _, _, _, _] (fun k => k ≤ l.length) (fun k => l.length - k) 0 [0, 1, 2, 3, 4, 5, 6] (Nat.zero_le _) rfl ⟨rfl, rfl, rfl, rfl, trivial⟩ ⟨rfl, trivial⟩ ⟨rfl, rfl, rfl, rfl, rfl, rfl, rfl, trivial⟩ ?_
            intro k hx
            simp only [upd, za, zaa, List.cons_append, List.nil_append]
            have hk := hx
            refine zae ?_
            refine zad ?_
            refine zab rfl rfl rfl (op_lss rfl (ev1 rfl) (ev1 rfl)) ?_
            refine zaf ?_
            refine zae ?_
            refine dwp_cond rfl (fun c17 => ?_) (fun c17 => ?_)
            · try simp only [yg, ya, beq_iff_eq, bne_iff_ne, yb, yc, yf, ye, yh, yi, yd, ne_eq, yj, Int.not_lt, Int.not_le] at c17
              refine dwp_skip ?_
              refine zae ?_
              refine dwp_block ?_
              refine zae ?_
              refine dwp_holes 1 (by simp only [holes, List.cons_append, List.nil_append]; exact rfl) ?_
              refine zad ?_
              refine zab rfl rfl rfl (zac (.inl rfl) (ev1 rfl)) ?_
              refine zab rfl rfl rfl (op_ixsr (j := k) rfl sl25 (ev1 rfl) (ev1 rfl) (fun _ => rfl) (by decide) (by omega) (by omega)) ?_
              refine zab rfl rfl rfl (op_ldwd rfl tb56 (ev1 rfl) rfl) ?_
              refine walk_w rfl rfl rfl (op_alloc 7 rfl zr56 rfl) (by simp only [upd, za, zaa]; exact rfl) ?_
              refine zab rfl rfl rfl (zac (.inr rfl) (ev1 rfl)) ?_
              refine walk_s rfl rfl (op_stwa rfl tb56 (ev1 rfl) (ev1 rfl) rfl rfl rfl rfl) (by simp only [upd, za, zaa]; exact rfl) ?_
              refine zaf ?_
              refine zae ?_
              refine zae ?_
              refine zad ?_
              refine zab rfl rfl rfl (zac (.inl rfl) (ev1 rfl)) ?_
              refine zab rfl rfl rfl (op_eql rfl (ev1 rfl) (ev1 rfl)) ?_
              refine zaf ?_
              refine dwp_cond rfl (fun c18 => ?_) (fun c18 => ?_)
              · try simp only [yg, ya, beq_iff_eq, bne_iff_ne, yb, yc, yf, ye, yh, yi, yd, ne_eq, yj, Int.not_lt, Int.not_le] at c18
                refine dwp_exit ?_
                refine zae ?_
                refine zad ?_
                refine zab rfl rfl rfl (zac (.inr rfl) (ev1 rfl)) ?_
                refine zaf ?_
                refine dwp_ret ?_
                refine kend0 (rs1 rfl (rv_t rfl)) rfl ?_
                first | rfl | simp [hother]
              · try simp only [yg, ya, beq_iff_eq, bne_iff_ne, yb, yc, yf, ye, yh, yi, yd, ne_eq, yj, Int.not_lt, Int.not_le] at c18
                refine dwp_skip ?_
                refine zae ?_
                refine dwp_holes 1 (by simp only [holes, List.cons_append, List.nil_append]; exact rfl) ?_
                refine zad ?_
                refine zab rfl rfl rfl (zac (.inl rfl) (ev1 rfl)) ?_
                refine zab rfl rfl rfl (op_fa rfl fo56_0 (ev1 rfl)) ?_
                refine zab rfl rfl rfl (op_ldo rfl tb3 (ev1 rfl) rfl rfl) ?_
                refine zab rfl rfl rfl (op_fa rfl fo56_1 (ev1 rfl)) ?_
                refine zab rfl rfl rfl (op_ldo rfl tb3 (ev1 rfl) rfl rfl) ?_
                refine zab rfl rfl rfl (dop_call [] [] [] rfl (ev1 rfl) (ec (ev1 rfl) (ec (ev1 rfl) (ec (ev1 rfl) en))) rfl rfl (at_d w h _ _ (dpR_ok _) hc l[k].x l[k].y) rfl rfl rfl rfl rfl rfl) ?_
                refine zab rfl rfl rfl (zac (.inl rfl) (ev1 rfl)) ?_
                refine zab rfl rfl rfl (op_ext rfl (ev1 rfl) rfl) ?_
                refine zab rfl rfl rfl (op_ext rfl (ev1 rfl) rfl) ?_
                refine walk_w rfl rfl rfl (op_alloc 8 rfl zr40 rfl) (by simp only [upd, za, zaa]; exact rfl) ?_
                refine walk_s rfl rfl (op_stwa rfl tb40 (ev1 rfl) (ev1 rfl) rfl rfl rfl rfl) (by simp only [upd, za, zaa]; exact rfl) ?_
                refine zab rfl rfl rfl (zac (.inr rfl) (ev1 rfl)) ?_
                refine zaf ?_
                refine zae ?_
                refine dwp_holes 1 (by simp only [holes, List.cons_append, List.nil_append]; exact rfl) ?_
                refine zad ?_
                refine zab rfl rfl rfl ((op_build0 rfl fl40 zr40).cast (d' := .val (.agg (c4 zC4).toArray)) (rfl)) ?_
                refine walk_w rfl rfl rfl (op_alloc 9 rfl zr40 rfl) (by simp only [upd, za, zaa]; exact rfl) ?_
                refine walk_s rfl rfl (op_stwa rfl tb40 (ev1 rfl) (ev1 rfl) rfl rfl rfl rfl) (by simp only [upd, za, zaa]; exact rfl) ?_
                refine zaf ?_
                refine zae ?_
                refine zad ?_
                refine zab rfl rfl rfl (op_ldmw rfl tb24 (ev1 rfl) rfl rfl) ?_
                refine zab rfl rfl rfl (op_fa rfl fo56_0 (ev1 rfl)) ?_
                refine zab rfl rfl rfl (op_ldo rfl tb3 (ev1 rfl) rfl rfl) ?_
                refine zab rfl rfl rfl (op_fa rfl fo56_1 (ev1 rfl)) ?_
                refine zab rfl rfl rfl (op_ldo rfl tb3 (ev1 rfl) rfl rfl) ?_
                refine zab rfl rfl rfl (dop_call [] [] [] rfl (ev1 rfl) (ec (ev1 rfl) (ec (ev1 rfl) (ec (ev1 rfl) en))) rfl rfl (on_d w h T l[k].x l[k].y hc) rfl rfl rfl rfl rfl rfl) ?_
                refine zab rfl rfl rfl (zac (.inr rfl) (ev1 rfl)) ?_
                refine zaf ?_
                refine zae ?_
                refine zae ?_
                refine zad ?_
                refine zab rfl rfl rfl (zac (.inl rfl) (ev1 rfl)) ?_
                refine zaf ?_
                refine dwp_cond rfl (fun c2 => ?_) (fun c2 => ?_)
                · have ho : onS w h l[k].x l[k].y = true := by simpa using c2
                  refine zad ?_
                  refine zab rfl rfl rfl (op_ldmw rfl tb24 (ev1 rfl) rfl rfl) ?_
                  refine zab rfl rfl rfl (op_fa rfl fo56_0 (ev1 rfl)) ?_
                  refine zab rfl rfl rfl (op_ldo rfl tb3 (ev1 rfl) rfl rfl) ?_
                  refine zab rfl rfl rfl (op_fa rfl fo56_1 (ev1 rfl)) ?_
                  refine zab rfl rfl rfl (op_ldo rfl tb3 (ev1 rfl) rfl rfl) ?_
                  refine zab rfl rfl rfl (dop_call [] [] [] rfl (ev1 rfl) (ec (ev1 rfl) (ec (ev1 rfl) (ec (ev1 rfl) en))) rfl rfl (rat_d w h T l[k].x l[k].y hc ho) rfl rfl rfl rfl rfl rfl) ?_
                  refine walk_s rfl rfl (op_stwa rfl tb40 (ev1 rfl) (ev1 rfl) rfl rfl rfl rfl) (by simp only [upd, za, zaa]; exact rfl) ?_
                  refine zaf ?_
                  refine zae ?_
                  refine zad ?_
                  refine zab rfl rfl rfl (op_ldw rfl tb40 (ev1 rfl) rfl rfl) ?_
                  refine zab rfl rfl rfl (op_ldw rfl tb40 (ev1 rfl) rfl rfl) ?_
                  refine zab rfl rfl rfl (op_ner eq40 rfl gd40 tb40 (ev1 rfl) (ev1 rfl)) ?_
                  refine zab rfl rfl rfl (zac (.inl rfl) (ev1 rfl)) ?_
                  refine walk_gr (gd_f rfl rfl rfl) rfl rfl rfl (zac (.inl rfl) (ev1 rfl)) ?_
                  refine walk_gr (gd_f rfl rfl rfl) rfl rfl rfl (zac (.inl rfl) (ev1 rfl)) ?_
                  refine walk_gr (gd_f rfl rfl rfl) rfl rfl rfl (op_neb rfl un4 (ev2 rfl) (ev2 rfl)) ?_
                  refine zab rfl rfl rfl (op_or rfl (ev1 rfl) (ev3 rfl id)) ?_
                  refine zaf ?_
                  refine dwp_if_f rfl (by simp [ho]) ?_
                  refine dwp_skip ?_
                  refine zad ?_
                  refine zab rfl rfl rfl (op_add' rfl (ev1 rfl) (ev1 rfl) (fun _ => IntWalk.i64_in _ (by omega))) ?_
                  refine zab rfl rfl rfl (zac (.inl rfl) (ev1 rfl)) ?_
                  refine zaf ?_
                  refine ⟨k + 1, [0, 1, 2, 3, 4, 5, 6], by omega, by simp only []; omega, rfl, ⟨rfl, rfl, rfl, rfl, rfl, trivial⟩, ⟨rfl, rfl, rfl, rfl, rfl, rfl, rfl, trivial⟩⟩
                · have ho : onS w h l[k].x l[k].y = false := by simpa using c2
                  refine dwp_skip ?_
                  refine zae ?_
                  refine zad ?_
                  refine zab rfl rfl rfl (op_ldw rfl tb40 (ev1 rfl) rfl rfl) ?_
                  refine zab rfl rfl rfl (op_ldw rfl tb40 (ev1 rfl) rfl rfl) ?_
                  refine zab rfl rfl rfl (op_ner eq40 rfl gd40 tb40 (ev1 rfl) (ev1 rfl)) ?_
                  refine zab rfl rfl rfl (zac (.inl rfl) (ev1 rfl)) ?_
                  refine walk_gr (gd_f rfl rfl rfl) rfl rfl rfl (zac (.inl rfl) (ev1 rfl)) ?_
                  refine walk_gr (gd_f rfl rfl rfl) rfl rfl rfl (zac (.inl rfl) (ev1 rfl)) ?_
                  refine walk_gr (gd_f rfl rfl rfl) rfl rfl rfl (op_neb rfl un4 (ev2 rfl) (ev2 rfl)) ?_
                  refine zab rfl rfl rfl (op_or rfl (ev1 rfl) (ev3 rfl id)) ?_
                  refine zaf ?_
                  refine dwp_if_f rfl (by simp [ho]) ?_
                  refine dwp_skip ?_
                  refine zad ?_
                  refine zab rfl rfl rfl (op_add' rfl (ev1 rfl) (ev1 rfl) (fun _ => IntWalk.i64_in _ (by omega))) ?_
                  refine zab rfl rfl rfl (zac (.inl rfl) (ev1 rfl)) ?_
                  refine zaf ?_
                  refine ⟨k + 1, [0, 1, 2, 3, 4, 5, 6], by omega, by simp only []; omega, rfl, ⟨rfl, rfl, rfl, rfl, rfl, trivial⟩, ⟨rfl, rfl, rfl, rfl, rfl, rfl, rfl, trivial⟩⟩
            · try simp only [yg, ya, beq_iff_eq, bne_iff_ne, yb, yc, yf, ye, yh, yi, yd, ne_eq, yj, Int.not_lt, Int.not_le] at c17
              refine dwp_exit ?_
              refine zae ?_
              refine zad ?_
              refine zab rfl rfl rfl (zac (.inr rfl) (ev1 rfl)) ?_
              refine zaf ?_
              refine dwp_ret ?_
              refine kend0 (rs1 rfl (rv_t rfl)) rfl ?_
              first | rfl | simp [hother]
    · refine zad ?_
      refine zab rfl rfl rfl (op_ldmw rfl tb24 (ev1 rfl) rfl rfl) ?_
      refine zab rfl rfl rfl (dop_call [] [] [] rfl (ev1 rfl) (ec (ev1 rfl) en) rfl rfl (of_0 w2 h2 U (by simpa using hother)) rfl rfl rfl rfl rfl rfl) ?_
      refine zab rfl rfl rfl (zac (.inl rfl) (ev1 rfl)) ?_
      refine zab rfl rfl rfl (op_ext rfl (ev1 rfl) rfl) ?_
      refine zab rfl rfl rfl (op_ext rfl (ev1 rfl) rfl) ?_
      refine zab rfl rfl rfl (zac (.inr rfl) (ev1 rfl)) ?_
      refine zab rfl rfl rfl (zac (.inr rfl) (ev1 rfl)) ?_
      refine zaf ?_
      refine zae ?_
      refine zae ?_
      refine zad ?_
      refine zab rfl rfl rfl (zac (.inl rfl) (ev1 rfl)) ?_
      refine zab rfl rfl rfl (op_not rfl (ev1 rfl)) ?_
      refine zaf ?_
      refine dwp_if_f rfl (by rw [hright]; rfl) ?_
      refine dwp_skip ?_
      refine zae ?_
      refine zae ?_
      refine zad ?_
      refine zab rfl rfl rfl (zac (.inl rfl) (ev1 rfl)) ?_
      refine zab rfl rfl rfl ((op_neq rfl (ev1 rfl) (ev1 rfl)).cast (d' := .val (.bool false)) (by kernel_rfl)) ?_
      refine zab rfl rfl rfl (zac (.inl rfl) (ev1 rfl)) ?_
      refine walk_k (gd_f (b := false) rfl rfl rfl) rfl rfl rfl (zac (.inl rfl) (ev1 rfl)) (by simp only [upd, za, zaa]; exact rfl) ?_
      refine walk_k (gd_f (b := false) rfl rfl rfl) rfl rfl rfl (op_pnilm rfl pt32 (ev2 rfl)) (by simp only [upd, za, zaa]; exact rfl) ?_
      refine zab rfl rfl rfl ((op_or rfl (ev1 rfl) (ev3 rfl (fun _ => rfl))).cast (d' := .val (.bool false)) (by rfl)) ?_
      refine zaf ?_
      refine dwp_if_f rfl (rfl) ?_
      refine dwp_skip ?_
      refine zae ?_
      refine zae ?_
      refine zad ?_
      refine zab rfl rfl rfl (op_fa rfl fo24_2 (ev1 rfl)) ?_
      refine zab rfl rfl rfl (op_ldm rfl tb22 (ev1 rfl) rfl rfl) ?_
      refine zab rfl rfl rfl (op_lena rfl sl22 (ev1 rfl) rfl) ?_
      refine zab rfl rfl rfl (zac (.inl rfl) (ev1 rfl)) ?_
      refine zaf ?_
      refine dwp_block ?_
      refine dwp_loopS ⟨hs0, rfl⟩ (α := Nat × List TL) (fun x => [(196, .val (.int .i64 (x.1 : Int)))]) [(2, _), (3, _), (7, _), (8, _), (10, _), (15, _), (17, _), (195, _)] (fun x => [(2, .arr 52 256 T.length (x.2.flatMap tc))]) [_, _, .hole, _, _] (fun x => x.1 ≤ T.length ∧ x.2.length = T.length) (fun x => T.length - x.1) (0, T) [0, 1, 2, 3, 4] (⟨Nat.zero_le _, rfl⟩) rfl ⟨rfl, rfl, rfl, rfl, rfl, rfl, rfl, rfl, trivial⟩ ⟨rfl, trivial⟩ ⟨rfl, rfl, rfl, rfl, rfl, trivial⟩ ?_
      intro x hx
      simp only [upd, za, zaa, List.cons_append, List.nil_append]
      obtain ⟨k, V⟩ := x
      obtain ⟨hk, hV⟩ := hx
      dsimp only at hk hV ⊢
      refine zae ?_
      refine zad ?_
      refine zab rfl rfl rfl (op_lss rfl (ev1 rfl) (ev1 rfl)) ?_
      refine zaf ?_
      refine zae ?_
      refine dwp_cond rfl (fun c24 => ?_) (fun c24 => ?_)
      · try simp only [yg, ya, beq_iff_eq, bne_iff_ne, yb, yc, yf, ye, yh, yi, yd, ne_eq, yj, Int.not_lt, Int.not_le] at c24
        refine dwp_skip ?_
        refine zae ?_
        refine dwp_block ?_
        refine zae ?_
        refine zad ?_
        refine zab rfl rfl rfl (zac (.inl rfl) (ev1 rfl)) ?_
        refine zab rfl rfl rfl (zac (.inr rfl) (ev1 rfl)) ?_
        refine zaf ?_
        refine dwp_draw [([], []), ([3], []), ([], []), ([2], []), ([], []), ([], []), ([2], []), ([], []), ([2], []), ([], []), ([], []), ([2], [2])] mixed (by kernel_rfl) ?_
        refine zag rfl rfl (op_fa rfl fo24_2 (ev1 rfl)) ?_
        refine zag rfl rfl (op_ldm rfl tb22 (ev1 rfl) rfl rfl) ?_
        refine zag rfl rfl (zac (.inl rfl) (ev1 rfl)) ?_
        refine zag rfl rfl (op_ixar (j := k) rfl sl22 (ev1 rfl) (ev1 rfl) rfl (fun _ => by first | rfl | omega) (fun _ => by omega)) ?_
        refine zag rfl rfl (op_ixal rfl ar52 (ev1 rfl) (ev1 rfl) (fun _ => by omega)) ?_
        refine zag rfl rfl (op_faa rfl fo40_0 (ev1 rfl)) ?_
        refine zag rfl rfl (op_ldoa rfl tb5 (ev1 rfl) rfl (get_tr (j := k) (q := 0) (c := 0) (by omega) (by decide) (by decide) rfl)) ?_
        refine zag rfl rfl (op_add rfl (ev1 rfl) (ev1 rfl)) ?_
        refine zag rfl rfl (op_ixar (j := k) rfl sl22 (ev1 rfl) (ev1 rfl) rfl (fun _ => by first | rfl | omega) (fun _ => by omega)) ?_
        refine zag rfl rfl (op_ixal rfl ar52 (ev1 rfl) (ev1 rfl) (fun _ => by omega)) ?_
        refine zag rfl rfl (op_faa rfl fo40_0 (ev1 rfl)) ?_
        refine lex_s rfl rfl (op_sta rfl tb5 (ev1 rfl) (ev1 rfl) rfl rfl rfl (by rfl) (by rw [flat_len tc_len]; simp [Value.cells]; omega) (setL_tr (j := k) (q := 0) (by omega) (by decide))) rfl (by simp only [upd, za, zaa]; exact rfl) ?_
        refine lex_nil ?_
        refine zad ?_
        refine zab rfl rfl rfl (op_add' rfl (ev1 rfl) (ev1 rfl) (fun _ => IntWalk.i64_in _ (by omega))) ?_
        refine zab rfl rfl rfl (zac (.inl rfl) (ev1 rfl)) ?_
        refine zaf ?_
        refine ⟨(k + 1, V.set k ((V.getD k zT).set 0 { (V.getD k zT).get 0 with r := IntKind.u8.wrap (((V.getD k zT).get 0).r + 1) })), [0, 1, 2, 3, 4], ⟨by dsimp only; omega, by dsimp only; rw [List.length_set]; exact hV⟩, by dsimp only; omega, rfl, ⟨rfl, rfl, rfl, rfl, rfl, rfl, rfl, rfl, rfl, trivial⟩, ⟨rfl, rfl, rfl, rfl, rfl, trivial⟩⟩
      · try simp only [yg, ya, beq_iff_eq, bne_iff_ne, yb, yc, yf, ye, yh, yi, yd, ne_eq, yj, Int.not_lt, Int.not_le] at c24
        refine dwp_exit ?_
        refine zae ?_
        refine dwp_holes 2 (by simp only [holes, List.cons_append, List.nil_append]; exact rfl) ?_
        refine zad ?_
        refine zab rfl rfl rfl (zac (.inl rfl) (ev1 rfl)) ?_
        refine walk_w rfl rfl rfl (dop_call [] [] [5] rfl (ev1 rfl) (ec (ev1 rfl) en) rfl rfl (show_o w h _ _ (dpR_ok _) hc) rfl rfl rfl rfl rfl rfl) (by simp only [upd, za, zaa]; exact rfl) ?_
        refine walk_w rfl rfl rfl (op_alloc 6 rfl zr24 rfl) (by simp only [upd, za, zaa]; exact rfl) ?_
        refine walk_s rfl rfl (op_stam rfl tb24 (ev1 rfl) (ev1 rfl) rfl rfl rfl rfl) (by simp only [upd, za, zaa]; exact rfl) ?_
        refine zaf ?_
        refine zae ?_
        refine zae ?_
        refine zad ?_
        refine zab rfl rfl rfl (op_fa rfl fo24_2 (ev1 rfl)) ?_
        refine zab rfl rfl rfl (op_ldm rfl tb22 (ev1 rfl) rfl rfl) ?_
        refine zab rfl rfl rfl (op_lena rfl sl22 (ev1 rfl) rfl) ?_
        refine zab rfl rfl rfl (zac (.inl rfl) (ev1 rfl)) ?_
        refine zaf ?_
        refine dwp_block ?_
        refine dwp_loopS ⟨hs0, rfl⟩ (α := Nat × List TL) (fun x => [(216, .val (.int .i64 (x.1 : Int)))]) [(2, _), (3, _), (7, _), (8, _), (10, _), (15, _), (17, _), (24, _), (215, _)] (fun x => [(5, .arr 52 256 T.length (x.2.flatMap tc))]) [_, _, _, _, _, .hole, _] (fun x => x.1 ≤ T.length ∧ x.2.length = T.length) (fun x => T.length - x.1) (0, T) [0, 1, 2, 3, 4, 5, 6] (⟨Nat.zero_le _, rfl⟩) rfl ⟨rfl, rfl, rfl, rfl, rfl, rfl, rfl, rfl, rfl, trivial⟩ ⟨rfl, trivial⟩ ⟨rfl, rfl, rfl, rfl, rfl, rfl, rfl, trivial⟩ ?_
        intro x hx
        simp only [upd, za, zaa, List.cons_append, List.nil_append]
        obtain ⟨k, V⟩ := x
        obtain ⟨hk, hV⟩ := hx
        dsimp only at hk hV ⊢
        refine zae ?_
        refine zad ?_
        refine zab rfl rfl rfl (op_lss rfl (ev1 rfl) (ev1 rfl)) ?_
        refine zaf ?_
        refine zae ?_
        refine dwp_cond rfl (fun c25 => ?_) (fun c25 => ?_)
        · try simp only [yg, ya, beq_iff_eq, bne_iff_ne, yb, yc, yf, ye, yh, yi, yd, ne_eq, yj, Int.not_lt, Int.not_le] at c25
          refine dwp_skip ?_
          refine zae ?_
          refine dwp_block ?_
          refine zae ?_
          refine zad ?_
          refine zab rfl rfl rfl (zac (.inl rfl) (ev1 rfl)) ?_
          refine zab rfl rfl rfl (zac (.inr rfl) (ev1 rfl)) ?_
          refine zaf ?_
          refine dwp_draw [([], []), ([6], []), ([], []), ([5], []), ([], []), ([], []), ([5], []), ([], []), ([5], []), ([], []), ([], []), ([5], [5])] mixed (by kernel_rfl) ?_
          refine zag rfl rfl (op_fa rfl fo24_2 (ev1 rfl)) ?_
          refine zag rfl rfl (op_ldm rfl tb22 (ev1 rfl) rfl rfl) ?_
          refine zag rfl rfl (zac (.inl rfl) (ev1 rfl)) ?_
          refine zag rfl rfl (op_ixar (j := k) rfl sl22 (ev1 rfl) (ev1 rfl) rfl (fun _ => by first | rfl | omega) (fun _ => by omega)) ?_
          refine zag rfl rfl (op_ixal rfl ar52 (ev1 rfl) (ev1 rfl) (fun _ => by omega)) ?_
          refine zag rfl rfl (op_faa rfl fo40_1 (ev1 rfl)) ?_
          refine zag rfl rfl (op_ldoa rfl tb5 (ev1 rfl) rfl (get_tr (j := k) (q := 1) (c := 1) (by omega) (by decide) (by decide) rfl)) ?_
          refine zag rfl rfl (op_add rfl (ev1 rfl) (ev1 rfl)) ?_
          refine zag rfl rfl (op_ixar (j := k) rfl sl22 (ev1 rfl) (ev1 rfl) rfl (fun _ => by first | rfl | omega) (fun _ => by omega)) ?_
          refine zag rfl rfl (op_ixal rfl ar52 (ev1 rfl) (ev1 rfl) (fun _ => by omega)) ?_
          refine zag rfl rfl (op_faa rfl fo40_1 (ev1 rfl)) ?_
          refine lex_s rfl rfl (op_sta rfl tb5 (ev1 rfl) (ev1 rfl) rfl rfl rfl (by rfl) (by rw [flat_len tc_len]; simp [Value.cells]; omega) (setL_tg (j := k) (q := 1) (by omega) (by decide))) rfl (by simp only [upd, za, zaa]; exact rfl) ?_
          refine lex_nil ?_
          refine zad ?_
          refine zab rfl rfl rfl (op_add' rfl (ev1 rfl) (ev1 rfl) (fun _ => IntWalk.i64_in _ (by omega))) ?_
          refine zab rfl rfl rfl (zac (.inl rfl) (ev1 rfl)) ?_
          refine zaf ?_
          refine ⟨(k + 1, V.set k ((V.getD k zT).set 1 { (V.getD k zT).get 1 with g := IntKind.u8.wrap (((V.getD k zT).get 1).g + 1) })), [0, 1, 2, 3, 4, 5, 6], ⟨by dsimp only; omega, by dsimp only; rw [List.length_set]; exact hV⟩, by dsimp only; omega, rfl, ⟨rfl, rfl, rfl, rfl, rfl, rfl, rfl, rfl, rfl, rfl, trivial⟩, ⟨rfl, rfl, rfl, rfl, rfl, rfl, rfl, trivial⟩⟩
        · try simp only [yg, ya, beq_iff_eq, bne_iff_ne, yb, yc, yf, ye, yh, yi, yd, ne_eq, yj, Int.not_lt, Int.not_le] at c25
          refine dwp_exit ?_
          refine zae ?_
          refine zad ?_
          refine zab rfl rfl rfl (op_ldmw rfl tb24 (ev1 rfl) rfl rfl) ?_
          refine zab rfl rfl rfl (dop_call [] [] [] rfl (ev1 rfl) (ec (ev1 rfl) en) rfl rfl ((by rw [hT]; exact own_d w h xs : DFun Try.prog 9 [shD w h xs] [] (shD w h T) [])) rfl rfl rfl rfl rfl rfl) ?_
          refine walk_s rfl rfl (op_stmw rfl tb24 (ev1 rfl) (ev1 rfl) rfl rfl rfl rfl) (by simp only [upd, za, zaa]; exact rfl) ?_
          refine zaf ?_
          refine zae ?_
          refine zad ?_
          refine zab rfl rfl rfl (zac (.inl rfl) (ev1 rfl)) ?_
          refine zab rfl rfl rfl (dop_call [] [] [] rfl (ev1 rfl) (ec (ev1 rfl) en) rfl rfl (size_d w h _ _ (dpR_ok _) hc) rfl rfl rfl rfl rfl rfl) ?_
          refine zab rfl rfl rfl (zac (.inl rfl) (ev1 rfl)) ?_
          refine zab rfl rfl rfl (op_ext rfl (ev1 rfl) rfl) ?_
          refine zab rfl rfl rfl (op_ext rfl (ev1 rfl) rfl) ?_
          refine zab rfl rfl rfl (zac (.inr rfl) (ev1 rfl)) ?_
          refine zab rfl rfl rfl (zac (.inr rfl) (ev1 rfl)) ?_
          refine zaf ?_
          refine zae ?_
          refine zad ?_
          refine zab rfl rfl rfl (zac (.inr rfl) (ev1 rfl)) ?_
          refine zaf ?_
          refine zae ?_
          refine zae ?_
          refine zad ?_
          refine zab rfl rfl rfl (zac (.inl rfl) (ev1 rfl)) ?_
          refine zab rfl rfl rfl (zac (.inl rfl) (ev1 rfl)) ?_
          refine walk_gr (gd_t rfl rfl rfl) rfl rfl rfl (op_fa rfl fo24_0 (ev1 rfl)) ?_
          refine walk_gr (gd_t rfl rfl rfl) rfl rfl rfl (op_ldm rfl tb3 (ev2 rfl) rfl rfl) ?_
          refine walk_gr (gd_t rfl rfl rfl) rfl rfl rfl (op_fa rfl fo24_0 (ev1 rfl)) ?_
          refine walk_gr (gd_t rfl rfl rfl) rfl rfl rfl (op_ldm rfl tb3 (ev2 rfl) rfl rfl) ?_
          refine walk_gr (gd_t rfl rfl rfl) rfl rfl rfl (op_eql rfl (ev2 rfl) (ev2 rfl)) ?_
          refine zab rfl rfl rfl (op_and rfl (ev1 rfl) (ev3 rfl id)) ?_
          refine zab rfl rfl rfl (zac (.inl rfl) (ev1 rfl)) ?_
          refine walk_gr (gd_t rfl rfl rfl) rfl rfl rfl (op_fa rfl fo24_1 (ev1 rfl)) ?_
          refine walk_gr (gd_t rfl rfl rfl) rfl rfl rfl (op_ldm rfl tb3 (ev2 rfl) rfl rfl) ?_
          refine walk_gr (gd_t rfl rfl rfl) rfl rfl rfl (op_fa rfl fo24_1 (ev1 rfl)) ?_
          refine walk_gr (gd_t rfl rfl rfl) rfl rfl rfl (op_ldm rfl tb3 (ev2 rfl) rfl rfl) ?_
          refine walk_gr (gd_t rfl rfl rfl) rfl rfl rfl (op_eql rfl (ev2 rfl) (ev2 rfl)) ?_
          refine zab rfl rfl rfl (op_and rfl (ev1 rfl) (ev3 rfl id)) ?_
          refine zaf ?_
          refine dwp_if_f rfl (by rw [show rightB w2 h2 U = false by simpa using hother]; rfl) ?_
          refine dwp_skip ?_
          refine zae ?_
          refine zae ?_
          refine dwp_draw [([], []), ([], []), ([3], []), ([], []), ([], []), ([], []), ([], []), ([], []), ([3], []), ([], []), ([], []), ([], []), ([], []), ([], []), ([], []), ([3], []), ([], []), ([], []), ([], []), ([], []), ([], []), ([], []), ([], []), ([], []), ([], []), ([3], []), ([4], []), ([], []), ([], []), ([], []), ([], []), ([], []), ([], []), ([], []), ([], []), ([], []), ([], []), ([], []), ([], [])] mixed (by kernel_rfl) ?_
          refine zag rfl rfl (zac (.inl rfl) (ev1 rfl)) ?_
          refine zag rfl rfl (dop_call [] [] [] rfl (ev1 rfl) (ec (ev1 rfl) en) rfl rfl (show_d w h _ _ (dpR_ok _) hc) rfl rfl rfl rfl rfl rfl) ?_
          refine zag rfl rfl (op_ldmw rfl tb24 (ev1 rfl) rfl rfl) ?_
          refine zag rfl rfl (dop_call [] [] [] rfl (ev1 rfl) (ec (ev1 rfl) (ec (ev1 rfl) en)) rfl rfl (same_d _ _ _ _ _ _ (by omega)) rfl rfl rfl rfl rfl rfl) ?_
          refine zag rfl rfl (op_not rfl (ev1 rfl)) ?_
          refine zag rfl rfl (zac (.inl rfl) (ev1 rfl)) ?_
          refine lex_gr (gd_f rfl rfl rfl) rfl rfl (zac (.inl rfl) (ev1 rfl)) ?_
          refine lex_gr (gd_f rfl rfl rfl) rfl rfl (op_fa rfl fo24_0 (ev1 rfl)) ?_
          refine lex_gr (gd_f rfl rfl rfl) rfl rfl (op_ldm rfl tb3 (ev2 rfl) rfl rfl) ?_
          refine lex_gr (gd_f rfl rfl rfl) rfl rfl (op_mul' rfl (ev1 rfl) (ev2 rfl) (fun hp => IntWalk.i64_in _ (by first | omega | (simp at hp; omega)))) ?_
          refine lex_gr (gd_f rfl rfl rfl) rfl rfl (op_neq rfl (ev2 rfl) (ev2 rfl)) ?_
          refine zag rfl rfl (op_or rfl (ev1 rfl) (ev3 rfl id)) ?_
          refine zag rfl rfl (zac (.inl rfl) (ev1 rfl)) ?_
          refine lex_gr (gd_f rfl rfl rfl) rfl rfl (zac (.inl rfl) (ev1 rfl)) ?_
          refine lex_gr (gd_f rfl rfl rfl) rfl rfl (op_fa rfl fo24_1 (ev1 rfl)) ?_
          refine lex_gr (gd_f rfl rfl rfl) rfl rfl (op_ldm rfl tb3 (ev2 rfl) rfl rfl) ?_
          refine lex_gr (gd_f rfl rfl rfl) rfl rfl (op_mul' rfl (ev1 rfl) (ev2 rfl) (fun hp => IntWalk.i64_in _ (by first | omega | (simp at hp; omega)))) ?_
          refine lex_gr (gd_f rfl rfl rfl) rfl rfl (op_neq rfl (ev2 rfl) (ev2 rfl)) ?_
          refine zag rfl rfl (op_or rfl (ev1 rfl) (ev3 rfl id)) ?_
          refine zag rfl rfl (zac (.inl rfl) (ev1 rfl)) ?_
          refine lex_gr (gd_f rfl rfl rfl) rfl rfl (zac (.inl rfl) (ev1 rfl)) ?_
          refine lex_gr (gd_f rfl rfl rfl) rfl rfl (zac (.inl rfl) (ev1 rfl)) ?_
          refine lex_gr (gd_f rfl rfl rfl) rfl rfl (dop_call [] [] [] rfl (ev1 rfl) (ec (ev2 rfl) (ec (ev2 rfl) en)) rfl rfl (same_10 _ _ _) rfl rfl rfl rfl rfl rfl) ?_
          refine lex_gr (gd_f rfl rfl rfl) rfl rfl (zac (.inl rfl) (ev1 rfl)) ?_
          refine lex_gr (gd_f rfl rfl rfl) rfl rfl (zac (.inl rfl) (ev2 rfl)) ?_
          refine lex_gr (gd_tt rfl rfl rfl) rfl rfl (op_ldmw rfl tb24 (ev1 rfl) rfl rfl) ?_
          refine lex_gr (gd_tt rfl rfl rfl) rfl rfl (op_ldmw rfl tb24 (ev1 rfl) rfl rfl) ?_
          refine lex_gr (gd_tt rfl rfl rfl) rfl rfl (dop_call [] [] [] rfl (ev1 rfl) (ec (ev2 rfl) (ec (ev2 rfl) en)) rfl rfl (same_d _ _ _ _ _ _ (by omega)) rfl rfl rfl rfl rfl rfl) ?_
          refine lex_gr (gd_f rfl rfl rfl) rfl rfl (op_and rfl (ev2 rfl) (ev2 rfl)) ?_
          refine lex_gr (gd_f rfl rfl rfl) rfl rfl (op_neb rfl un4 (ev2 rfl) (ev2 rfl)) ?_
          refine zag rfl rfl (op_or rfl (ev1 rfl) (ev3 rfl id)) ?_
          refine zag rfl rfl (zac (.inl rfl) (ev1 rfl)) ?_
          refine lex_gr (gd_f rfl rfl rfl) rfl rfl (zac (.inl rfl) (ev1 rfl)) ?_
          refine lex_gr (gd_f rfl rfl rfl) rfl rfl (zac (.inl rfl) (ev1 rfl)) ?_
          refine lex_gr (gd_f rfl rfl rfl) rfl rfl (dop_call [] [] [] rfl (ev1 rfl) (ec (ev2 rfl) (ec (ev2 rfl) en)) rfl rfl (differ_1 _ _ _) rfl rfl rfl rfl rfl rfl) ?_
          refine lex_gr (gd_f rfl rfl rfl) rfl rfl (zac (.inl rfl) (ev1 rfl)) ?_
          refine lex_gr (gd_f rfl rfl rfl) rfl rfl (dop_call [] [] [] rfl (ev1 rfl) (ec (evnil 2 (ev2 rfl)) (ec (evnil 2 (ev2 rfl)) en)) rfl rfl (equalP [] []) rfl rfl rfl rfl rfl rfl) ?_
          refine lex_gr (gd_f rfl rfl rfl) rfl rfl (op_not rfl (ev2 rfl)) ?_
          refine zag rfl rfl (op_or rfl (ev1 rfl) (ev3 rfl id)) ?_
          refine lex_nil ?_
          refine dwp_if_f rfl (by simp [show rightB w2 h2 U = false by simpa using hother]; omega) ?_
          refine dwp_skip ?_
          refine zae ?_
          refine zae ?_
          refine zad ?_
          refine zab rfl rfl rfl (zac (.inl rfl) (ev1 rfl)) ?_
          refine zab rfl rfl rfl (op_len rfl sl25 (ev1 rfl)) ?_
          refine zab rfl rfl rfl (zac (.inl rfl) (ev1 rfl)) ?_
          refine zaf ?_
          refine dwp_block ?_
          refine dwp_loopS ⟨hs0, rfl⟩ (α := Nat) (fun k => [(297, .val (.int .i64 (k : Int)))]) [(7, _), (15, _), (295, _), (296, _)] (fun k => []) [_, _, _, _, _, _, _] (fun k => k ≤ l.length) (fun k => l.length - k) 0 [0, 1, 2, 3, 4, 5, 6] (Nat.zero_le _) rfl ⟨rfl, rfl, rfl, rfl, trivial⟩ ⟨rfl, trivial⟩ ⟨rfl, rfl, rfl, rfl, rfl, rfl, rfl, trivial⟩ ?_
          intro k hx
          simp only [upd, za, zaa, List.cons_append, List.nil_append]
          have hk := hx
          refine zae ?_
          refine zad ?_
          refine zab rfl rfl rfl (op_lss rfl (ev1 rfl) (ev1 rfl)) ?_
          refine zaf ?_
          refine zae ?_
          refine dwp_cond rfl (fun c28 => ?_) (fun c28 => ?_)
          · try simp only [yg, ya, beq_iff_eq, bne_iff_ne, yb, yc, yf, ye, yh, yi, yd, ne_eq, yj, Int.not_lt, Int.not_le] at c28
            refine dwp_skip ?_
            refine zae ?_
            refine dwp_block ?_
            refine zae ?_
            refine dwp_holes 1 (by simp only [holes, List.cons_append, List.nil_append]; exact rfl) ?_
            refine zad ?_
            refine zab rfl rfl rfl (zac (.inl rfl) (ev1 rfl)) ?_
            refine zab rfl rfl rfl (op_ixsr (j := k) rfl sl25 (ev1 rfl) (ev1 rfl) (fun _ => rfl) (by decide) (by omega) (by omega)) ?_
            refine zab rfl rfl rfl (op_ldwd rfl tb56 (ev1 rfl) rfl) ?_
            refine walk_w rfl rfl rfl (op_alloc 7 rfl zr56 rfl) (by simp only [upd, za, zaa]; exact rfl) ?_
            refine zab rfl rfl rfl (zac (.inr rfl) (ev1 rfl)) ?_
            refine walk_s rfl rfl (op_stwa rfl tb56 (ev1 rfl) (ev1 rfl) rfl rfl rfl rfl) (by simp only [upd, za, zaa]; exact rfl) ?_
            refine zaf ?_
            refine zae ?_
            refine zae ?_
            refine zad ?_
            refine zab rfl rfl rfl (zac (.inl rfl) (ev1 rfl)) ?_
            refine zab rfl rfl rfl (op_eql rfl (ev1 rfl) (ev1 rfl)) ?_
            refine zaf ?_
            refine dwp_cond rfl (fun c29 => ?_) (fun c29 => ?_)
            · try simp only [yg, ya, beq_iff_eq, bne_iff_ne, yb, yc, yf, ye, yh, yi, yd, ne_eq, yj, Int.not_lt, Int.not_le] at c29
              refine dwp_exit ?_
              refine zae ?_
              refine zad ?_
              refine zab rfl rfl rfl (zac (.inr rfl) (ev1 rfl)) ?_
              refine zaf ?_
              refine dwp_ret ?_
              refine kend0 (rs1 rfl (rv_t rfl)) rfl ?_
              first | rfl | simp [hother]
            · try simp only [yg, ya, beq_iff_eq, bne_iff_ne, yb, yc, yf, ye, yh, yi, yd, ne_eq, yj, Int.not_lt, Int.not_le] at c29
              refine dwp_skip ?_
              refine zae ?_
              refine dwp_holes 1 (by simp only [holes, List.cons_append, List.nil_append]; exact rfl) ?_
              refine zad ?_
              refine zab rfl rfl rfl (zac (.inl rfl) (ev1 rfl)) ?_
              refine zab rfl rfl rfl (op_fa rfl fo56_0 (ev1 rfl)) ?_
              refine zab rfl rfl rfl (op_ldo rfl tb3 (ev1 rfl) rfl rfl) ?_
              refine zab rfl rfl rfl (op_fa rfl fo56_1 (ev1 rfl)) ?_
              refine zab rfl rfl rfl (op_ldo rfl tb3 (ev1 rfl) rfl rfl) ?_
              refine zab rfl rfl rfl (dop_call [] [] [] rfl (ev1 rfl) (ec (ev1 rfl) (ec (ev1 rfl) (ec (ev1 rfl) en))) rfl rfl (at_d w h _ _ (dpR_ok _) hc l[k].x l[k].y) rfl rfl rfl rfl rfl rfl) ?_
              refine zab rfl rfl rfl (zac (.inl rfl) (ev1 rfl)) ?_
              refine zab rfl rfl rfl (op_ext rfl (ev1 rfl) rfl) ?_
              refine zab rfl rfl rfl (op_ext rfl (ev1 rfl) rfl) ?_
              refine walk_w rfl rfl rfl (op_alloc 8 rfl zr40 rfl) (by simp only [upd, za, zaa]; exact rfl) ?_
              refine walk_s rfl rfl (op_stwa rfl tb40 (ev1 rfl) (ev1 rfl) rfl rfl rfl rfl) (by simp only [upd, za, zaa]; exact rfl) ?_
              refine zab rfl rfl rfl (zac (.inr rfl) (ev1 rfl)) ?_
              refine zaf ?_
              refine zae ?_
              refine dwp_holes 1 (by simp only [holes, List.cons_append, List.nil_append]; exact rfl) ?_
              refine zad ?_
              refine zab rfl rfl rfl ((op_build0 rfl fl40 zr40).cast (d' := .val (.agg (c4 zC4).toArray)) (rfl)) ?_
              refine walk_w rfl rfl rfl (op_alloc 9 rfl zr40 rfl) (by simp only [upd, za, zaa]; exact rfl) ?_
              refine walk_s rfl rfl (op_stwa rfl tb40 (ev1 rfl) (ev1 rfl) rfl rfl rfl rfl) (by simp only [upd, za, zaa]; exact rfl) ?_
              refine zaf ?_
              refine zae ?_
              refine zad ?_
              refine zab rfl rfl rfl (op_ldmw rfl tb24 (ev1 rfl) rfl rfl) ?_
              refine zab rfl rfl rfl (op_fa rfl fo56_0 (ev1 rfl)) ?_
              refine zab rfl rfl rfl (op_ldo rfl tb3 (ev1 rfl) rfl rfl) ?_
              refine zab rfl rfl rfl (op_fa rfl fo56_1 (ev1 rfl)) ?_
              refine zab rfl rfl rfl (op_ldo rfl tb3 (ev1 rfl) rfl rfl) ?_
              refine zab rfl rfl rfl (dop_call [] [] [] rfl (ev1 rfl) (ec (ev1 rfl) (ec (ev1 rfl) (ec (ev1 rfl) en))) rfl rfl (on_d w h T l[k].x l[k].y hc) rfl rfl rfl rfl rfl rfl) ?_
              refine zab rfl rfl rfl (zac (.inr rfl) (ev1 rfl)) ?_
              refine zaf ?_
              refine zae ?_
              refine zae ?_
              refine zad ?_
              refine zab rfl rfl rfl (zac (.inl rfl) (ev1 rfl)) ?_
              refine zaf ?_
              refine dwp_cond rfl (fun c2 => ?_) (fun c2 => ?_)
              · have ho : onS w h l[k].x l[k].y = true := by simpa using c2
                refine zad ?_
                refine zab rfl rfl rfl (op_ldmw rfl tb24 (ev1 rfl) rfl rfl) ?_
                refine zab rfl rfl rfl (op_fa rfl fo56_0 (ev1 rfl)) ?_
                refine zab rfl rfl rfl (op_ldo rfl tb3 (ev1 rfl) rfl rfl) ?_
                refine zab rfl rfl rfl (op_fa rfl fo56_1 (ev1 rfl)) ?_
                refine zab rfl rfl rfl (op_ldo rfl tb3 (ev1 rfl) rfl rfl) ?_
                refine zab rfl rfl rfl (dop_call [] [] [] rfl (ev1 rfl) (ec (ev1 rfl) (ec (ev1 rfl) (ec (ev1 rfl) en))) rfl rfl (rat_d w h T l[k].x l[k].y hc ho) rfl rfl rfl rfl rfl rfl) ?_
                refine walk_s rfl rfl (op_stwa rfl tb40 (ev1 rfl) (ev1 rfl) rfl rfl rfl rfl) (by simp only [upd, za, zaa]; exact rfl) ?_
                refine zaf ?_
                refine zae ?_
                refine zad ?_
                refine zab rfl rfl rfl (op_ldw rfl tb40 (ev1 rfl) rfl rfl) ?_
                refine zab rfl rfl rfl (op_ldw rfl tb40 (ev1 rfl) rfl rfl) ?_
                refine zab rfl rfl rfl (op_ner eq40 rfl gd40 tb40 (ev1 rfl) (ev1 rfl)) ?_
                refine zab rfl rfl rfl (zac (.inl rfl) (ev1 rfl)) ?_
                refine walk_gr (gd_f rfl rfl rfl) rfl rfl rfl (zac (.inl rfl) (ev1 rfl)) ?_
                refine walk_gr (gd_f rfl rfl rfl) rfl rfl rfl (zac (.inl rfl) (ev1 rfl)) ?_
                refine walk_gr (gd_f rfl rfl rfl) rfl rfl rfl (op_neb rfl un4 (ev2 rfl) (ev2 rfl)) ?_
                refine zab rfl rfl rfl (op_or rfl (ev1 rfl) (ev3 rfl id)) ?_
                refine zaf ?_
                refine dwp_if_f rfl (by simp [ho]) ?_
                refine dwp_skip ?_
                refine zad ?_
                refine zab rfl rfl rfl (op_add' rfl (ev1 rfl) (ev1 rfl) (fun _ => IntWalk.i64_in _ (by omega))) ?_
                refine zab rfl rfl rfl (zac (.inl rfl) (ev1 rfl)) ?_
                refine zaf ?_
                refine ⟨k + 1, [0, 1, 2, 3, 4, 5, 6], by omega, by simp only []; omega, rfl, ⟨rfl, rfl, rfl, rfl, rfl, trivial⟩, ⟨rfl, rfl, rfl, rfl, rfl, rfl, rfl, trivial⟩⟩
              · have ho : onS w h l[k].x l[k].y = false := by simpa using c2
                refine dwp_skip ?_
                refine zae ?_
                refine zad ?_
                refine zab rfl rfl rfl (op_ldw rfl tb40 (ev1 rfl) rfl rfl) ?_
                refine zab rfl rfl rfl (op_ldw rfl tb40 (ev1 rfl) rfl rfl) ?_
                refine zab rfl rfl rfl (op_ner eq40 rfl gd40 tb40 (ev1 rfl) (ev1 rfl)) ?_
                refine zab rfl rfl rfl (zac (.inl rfl) (ev1 rfl)) ?_
                refine walk_gr (gd_f rfl rfl rfl) rfl rfl rfl (zac (.inl rfl) (ev1 rfl)) ?_
                refine walk_gr (gd_f rfl rfl rfl) rfl rfl rfl (zac (.inl rfl) (ev1 rfl)) ?_
                refine walk_gr (gd_f rfl rfl rfl) rfl rfl rfl (op_neb rfl un4 (ev2 rfl) (ev2 rfl)) ?_
                refine zab rfl rfl rfl (op_or rfl (ev1 rfl) (ev3 rfl id)) ?_
                refine zaf ?_
                refine dwp_if_f rfl (by simp [ho]) ?_
                refine dwp_skip ?_
                refine zad ?_
                refine zab rfl rfl rfl (op_add' rfl (ev1 rfl) (ev1 rfl) (fun _ => IntWalk.i64_in _ (by omega))) ?_
                refine zab rfl rfl rfl (zac (.inl rfl) (ev1 rfl)) ?_
                refine zaf ?_
                refine ⟨k + 1, [0, 1, 2, 3, 4, 5, 6], by omega, by simp only []; omega, rfl, ⟨rfl, rfl, rfl, rfl, rfl, trivial⟩, ⟨rfl, rfl, rfl, rfl, rfl, rfl, rfl, trivial⟩⟩
          · try simp only [yg, ya, beq_iff_eq, bne_iff_ne, yb, yc, yf, ye, yh, yi, yd, ne_eq, yj, Int.not_lt, Int.not_le] at c28
            refine dwp_exit ?_
            refine zae ?_
            refine zad ?_
            refine zab rfl rfl rfl (zac (.inr rfl) (ev1 rfl)) ?_
            refine zaf ?_
            refine dwp_ret ?_
            refine kend0 (rs1 rfl (rv_t rfl)) rfl ?_
            first | rfl | simp [hother]
  · by_cases hmay : mayS w h = true
    · refine zad ?_
      refine zab rfl rfl rfl (op_fa rfl fo24_0 (ev1 rfl)) ?_
      refine zab rfl rfl rfl (op_ldm rfl tb3 (ev1 rfl) rfl rfl) ?_
      refine zab rfl rfl rfl (op_fa rfl fo24_1 (ev1 rfl)) ?_
      refine zab rfl rfl rfl (op_ldm rfl tb3 (ev1 rfl) rfl rfl) ?_
      refine zab rfl rfl rfl (dop_call [] [] [] rfl (ev1 rfl) (ec (ev1 rfl) (ec (ev1 rfl) en)) rfl rfl (cnew_d w h (w * h).toNat hmay (by have := mul_in hmay; omega)) rfl rfl rfl rfl rfl rfl) ?_
      refine zab rfl rfl rfl (zac (.inl rfl) (ev1 rfl)) ?_
      refine zab rfl rfl rfl (op_ext rfl (ev1 rfl) rfl) ?_
      refine zab rfl rfl rfl (op_ext rfl (ev1 rfl) rfl) ?_
      refine zab rfl rfl rfl (zac (.inr rfl) (ev1 rfl)) ?_
      refine zab rfl rfl rfl (zac (.inr rfl) (ev1 rfl)) ?_
      refine zaf ?_
      refine zae ?_
      refine zae ?_
      refine zad ?_
      refine zab rfl rfl rfl (op_fa rfl fo24_0 (ev1 rfl)) ?_
      refine zab rfl rfl rfl (op_ldm rfl tb3 (ev1 rfl) rfl rfl) ?_
      refine zab rfl rfl rfl (op_fa rfl fo24_1 (ev1 rfl)) ?_
      refine zab rfl rfl rfl (op_ldm rfl tb3 (ev1 rfl) rfl rfl) ?_
      refine zab rfl rfl rfl ((dop_call [] [] [] rfl (ev1 rfl) (ec (ev1 rfl) (ec (ev1 rfl) en)) rfl rfl (rsizes_d _ _) rfl rfl rfl rfl rfl rfl).cast (d' := .val (.bool true)) (by rw [hmay])) ?_
      refine zab rfl rfl rfl (zac (.inr rfl) (ev1 rfl)) ?_
      refine zaf ?_
      refine zae ?_
      have hmi := mul_in hmay
      have hcn : CvOk w h (List.replicate (w * h).toNat (nT zC4)) := ⟨hmay, by rw [List.length_replicate]; omega⟩
      have hcl := hcn.le
      refine dwp_draw [([], []), ([], []), ([], []), ([], []), ([], []), ([], []), ([], []), ([], []), ([], []), ([], []), ([], []), ([], []), ([], []), ([], []), ([], []), ([], []), ([], []), ([], []), ([], []), ([], []), ([], []), ([], []), ([3], []), ([], []), ([3], []), ([], []), ([], []), ([], []), ([], []), ([], [])] mixed (by kernel_rfl) ?_
      refine zag rfl rfl (zac (.inl rfl) (ev1 rfl)) ?_
      refine zag rfl rfl ((op_eql rfl (ev1 rfl) (ev1 rfl)).cast (d' := .val (.bool true)) (by kernel_rfl)) ?_
      refine zag rfl rfl (zac (.inl rfl) (ev1 rfl)) ?_
      refine zag rfl rfl ((op_neb rfl un4 (ev1 rfl) (ev1 rfl)).cast (d' := .val (.bool false)) (by kernel_rfl)) ?_
      refine zag rfl rfl (zac (.inl rfl) (ev1 rfl)) ?_
      refine lex_k (gd_f (b := false) rfl rfl rfl) rfl rfl (zac (.inl rfl) (ev1 rfl)) rfl (by simp only [upd, za, zaa]; exact rfl) ?_
      refine lex_k (gd_f (b := false) rfl rfl rfl) rfl rfl ((op_not rfl (ev2 rfl)).cast (d' := .val (.bool false)) (by kernel_rfl)) rfl (by simp only [upd, za, zaa]; exact rfl) ?_
      refine lex_k (gd_f (b := false) rfl rfl rfl) rfl rfl (zac (.inl rfl) (ev2 rfl)) rfl (by simp only [upd, za, zaa]; exact rfl) ?_
      refine lex_gr (gd_tt (g := true) (b := false) rfl rfl rfl) rfl rfl (dop_never (d := .junk)) ?_
      refine lex_gr (gd_tt (g := true) (b := false) rfl rfl rfl) rfl rfl (dop_never (d := .val (.bool false))) ?_
      refine lex_gr (gd_tt (g := true) (b := false) rfl rfl rfl) rfl rfl (dop_never (d := .val (.bool false))) ?_
      refine lex_gr (gd_ff (g := false) (b := false) rfl rfl rfl) rfl rfl (dop_never (d := .junk)) ?_
      refine lex_gr (gd_ff (g := false) (b := false) rfl rfl rfl) rfl rfl (dop_never (d := .val (.bool false))) ?_
      refine lex_gr (gd_tt (g := true) (b := false) rfl rfl rfl) rfl rfl (dop_never (d := .val (.bool false))) ?_
      refine lex_k (gd_f (b := false) rfl rfl rfl) rfl rfl ((op_and rfl (ev2 rfl) (ev3 rfl id)).cast (d' := .val (.bool false)) (by rfl)) rfl (by simp only [upd, za, zaa]; exact rfl) ?_
      refine zag rfl rfl ((op_or rfl (ev1 rfl) (ev3 rfl (fun _ => rfl))).cast (d' := .val (.bool false)) (by rfl)) ?_
      refine zag rfl rfl (zac (.inl rfl) (ev1 rfl)) ?_
      refine lex_k (gd_f (b := false) rfl rfl rfl) rfl rfl (zac (.inl rfl) (ev1 rfl)) rfl (by simp only [upd, za, zaa]; exact rfl) ?_
      refine lex_k (gd_f (b := false) rfl rfl rfl) rfl rfl (zac (.inl rfl) (ev2 rfl)) rfl (by simp only [upd, za, zaa]; exact rfl) ?_
      refine lex_k (gd_tt (g := true) (b := true) rfl rfl rfl) rfl rfl (zac (.inl rfl) (ev1 rfl)) rfl (by simp only [upd, za, zaa]; exact rfl) ?_
      refine lex_k (gd_tt (g := true) (b := true) rfl rfl rfl) rfl rfl (dop_call [] [] [] rfl (ev1 rfl) (ec (ev2 rfl) en) rfl rfl (show_d w h _ _ (dpR_ok _) hcn) rfl rfl rfl rfl rfl rfl) rfl (by simp only [upd, za, zaa]; exact rfl) ?_
      refine lex_k (gd_tt (g := true) (b := true) rfl rfl rfl) rfl rfl (op_fa rfl fo24_0 (ev1 rfl)) rfl (by simp only [upd, za, zaa]; exact rfl) ?_
      refine lex_k (gd_tt (g := true) (b := true) rfl rfl rfl) rfl rfl (op_ldm rfl tb3 (ev2 rfl) rfl rfl) rfl (by simp only [upd, za, zaa]; exact rfl) ?_
      refine lex_k (gd_tt (g := true) (b := true) rfl rfl rfl) rfl rfl (op_fa rfl fo24_1 (ev1 rfl)) rfl (by simp only [upd, za, zaa]; exact rfl) ?_
      refine lex_k (gd_tt (g := true) (b := true) rfl rfl rfl) rfl rfl (op_ldm rfl tb3 (ev2 rfl) rfl rfl) rfl (by simp only [upd, za, zaa]; exact rfl) ?_
      refine lex_k (gd_tt (g := true) (b := true) rfl rfl rfl) rfl rfl (dop_call [] [] [] rfl (ev1 rfl) (ec (ev2 rfl) (ec (ev2 rfl) en)) rfl rfl (rnew_d w h (w * h).toNat hmay (by omega)) rfl rfl rfl rfl rfl rfl) rfl (by simp only [upd, za, zaa]; exact rfl) ?_
      refine lex_k (gd_tt (g := true) (b := true) rfl rfl rfl) rfl rfl (dop_call [] [] [] rfl (ev1 rfl) (ec (ev2 rfl) (ec (ev2 rfl) en)) rfl rfl (same_d _ _ _ _ _ _ (by omega)) rfl rfl rfl rfl rfl rfl) rfl (by simp only [upd, za, zaa]; exact rfl) ?_
      refine lex_k (gd_tt (g := true) (b := true) rfl rfl rfl) rfl rfl (op_not rfl (ev2 rfl)) rfl (by simp only [upd, za, zaa]; exact rfl) ?_
      refine lex_k (gd_f (b := false) rfl rfl rfl) rfl rfl (op_and rfl (ev2 rfl) (ev3 rfl (fun _ => rfl))) rfl (by simp only [upd, za, zaa]; exact rfl) ?_
      refine zag rfl rfl (op_or rfl (ev1 rfl) (ev3 rfl (fun _ => rfl))) ?_
      refine lex_nil ?_
      refine dwp_if_f rfl (by simp) ?_
      refine dwp_skip ?_
      refine zae ?_
      have hright2 : rightB w h T = false := by simpa using hright
      refine zad ?_
      refine zab rfl rfl rfl (op_ldmw rfl tb24 (ev1 rfl) rfl rfl) ?_
      refine zab rfl rfl rfl (dop_call [] [2] [] rfl (ev1 rfl) (ec (ev1 rfl) en) rfl rfl (of_0 w h T (by simpa using hright)) rfl rfl rfl rfl rfl rfl) ?_
      refine zab rfl rfl rfl (zac (.inl rfl) (ev1 rfl)) ?_
      refine zab rfl rfl rfl (op_ext rfl (ev1 rfl) rfl) ?_
      refine zab rfl rfl rfl (op_ext rfl (ev1 rfl) rfl) ?_
      refine zab rfl rfl rfl (zac (.inr rfl) (ev1 rfl)) ?_
      refine zab rfl rfl rfl (zac (.inr rfl) (ev1 rfl)) ?_
      refine zaf ?_
      refine zae ?_
      by_cases hother : rightB w2 h2 U = true
      · have hd := rightB_ok hother
        refine zad ?_
        refine zab rfl rfl rfl (op_ldmw rfl tb24 (ev1 rfl) rfl rfl) ?_
        refine zab rfl rfl rfl (dop_call [] [] [] rfl (ev1 rfl) (ec (ev1 rfl) en) rfl rfl (of_d w2 h2 U hd) rfl rfl rfl rfl rfl rfl) ?_
        refine zab rfl rfl rfl (zac (.inl rfl) (ev1 rfl)) ?_
        refine zab rfl rfl rfl (op_ext rfl (ev1 rfl) rfl) ?_
        refine zab rfl rfl rfl (op_ext rfl (ev1 rfl) rfl) ?_
        refine zab rfl rfl rfl (zac (.inr rfl) (ev1 rfl)) ?_
        refine zab rfl rfl rfl (zac (.inr rfl) (ev1 rfl)) ?_
        refine zaf ?_
        refine zae ?_
        refine zae ?_
        refine zad ?_
        refine zab rfl rfl rfl (zac (.inl rfl) (ev1 rfl)) ?_
        refine zab rfl rfl rfl (op_not rfl (ev1 rfl)) ?_
        refine zaf ?_
        refine dwp_if_t rfl (by rw [hright2]; rfl) ?_
        refine zae ?_
        refine dwp_holes 1 (by simp only [holes, List.cons_append, List.nil_append]; exact rfl) ?_
        refine zad ?_
        refine zab rfl rfl rfl (zac (.inl rfl) (ev1 rfl)) ?_
        refine zab rfl rfl rfl (dop_call [] [] [] rfl (ev1 rfl) (ec (ev1 rfl) (ec (ev1 rfl) (ec (ev1 rfl) en))) rfl rfl (at_0 0 0) rfl rfl rfl rfl rfl rfl) ?_
        refine zab rfl rfl rfl (zac (.inl rfl) (ev1 rfl)) ?_
        refine zab rfl rfl rfl (op_ext rfl (ev1 rfl) rfl) ?_
        refine zab rfl rfl rfl (op_ext rfl (ev1 rfl) rfl) ?_
        refine walk_w rfl rfl rfl (op_alloc 5 rfl zr40 rfl) (by simp only [upd, za, zaa]; exact rfl) ?_
        refine walk_s rfl rfl (op_stwa rfl tb40 (ev1 rfl) (ev1 rfl) rfl rfl rfl rfl) (by simp only [upd, za, zaa]; exact rfl) ?_
        refine zab rfl rfl rfl (zac (.inr rfl) (ev1 rfl)) ?_
        refine zaf ?_
        refine zae ?_
        refine zad ?_
        refine zab rfl rfl rfl (zac (.inl rfl) (ev1 rfl)) ?_
        refine zab rfl rfl rfl (dop_call [] [] [] rfl (ev1 rfl) (ec (ev1 rfl) en) rfl rfl (size_0) rfl rfl rfl rfl rfl rfl) ?_
        refine zab rfl rfl rfl (zac (.inl rfl) (ev1 rfl)) ?_
        refine zab rfl rfl rfl (op_ext rfl (ev1 rfl) rfl) ?_
        refine zab rfl rfl rfl (op_ext rfl (ev1 rfl) rfl) ?_
        refine zab rfl rfl rfl (zac (.inr rfl) (ev1 rfl)) ?_
        refine zab rfl rfl rfl (zac (.inr rfl) (ev1 rfl)) ?_
        refine zaf ?_
        refine zae ?_
        refine zad ?_
        refine zab rfl rfl rfl (zac (.inl rfl) (ev1 rfl)) ?_
        refine zab rfl rfl rfl ((op_eql rfl (ev1 rfl) (ev1 rfl)).cast (d' := .val (.bool true)) (by kernel_rfl)) ?_
        refine zab rfl rfl rfl (zac (.inl rfl) (ev1 rfl)) ?_
        refine walk_k (gd_t (b := true) rfl rfl rfl) rfl rfl rfl (zac (.inl rfl) (ev1 rfl)) (by simp only [upd, za, zaa]; exact rfl) ?_
        refine walk_k (gd_t (b := true) rfl rfl rfl) rfl rfl rfl (op_pnil0 rfl pt32 (ev2 rfl)) (by simp only [upd, za, zaa]; exact rfl) ?_
        refine zab rfl rfl rfl ((op_and rfl (ev1 rfl) (ev3 rfl (fun _ => rfl))).cast (d' := .val (.bool true)) (by rfl)) ?_
        refine zab rfl rfl rfl (zac (.inl rfl) (ev1 rfl)) ?_
        refine walk_k (gd_t (b := true) rfl rfl rfl) rfl rfl rfl (zac (.inl rfl) (ev1 rfl)) (by simp only [upd, za, zaa]; exact rfl) ?_
        refine walk_k (gd_t (b := true) rfl rfl rfl) rfl rfl rfl (op_not rfl (ev2 rfl)) (by simp only [upd, za, zaa]; exact rfl) ?_
        refine zab rfl rfl rfl (op_and rfl (ev1 rfl) (ev3 rfl (fun _ => rfl))) ?_
        refine zab rfl rfl rfl (zac (.inl rfl) (ev1 rfl)) ?_
        refine walk_gr (gd_t rfl rfl rfl) rfl rfl rfl (zac (.inl rfl) (ev1 rfl)) ?_
        refine walk_gr (gd_t rfl rfl rfl) rfl rfl rfl (zac (.inl rfl) (ev1 rfl)) ?_
        refine walk_gr (gd_t rfl rfl rfl) rfl rfl rfl (op_add' rfl (ev2 rfl) (ev2 rfl) (fun hp => IntWalk.i64_in _ (by first | omega | (simp at hp; omega)))) ?_
        refine walk_gr (gd_t rfl rfl rfl) rfl rfl rfl (op_eql rfl (ev2 rfl) (ev1 rfl)) ?_
        refine zab rfl rfl rfl (op_and rfl (ev1 rfl) (ev3 rfl id)) ?_
        refine zab rfl rfl rfl (zac (.inl rfl) (ev1 rfl)) ?_
        refine walk_gr (gd_t rfl rfl rfl) rfl rfl rfl (zac (.inl rfl) (ev1 rfl)) ?_
        refine walk_gr (gd_t rfl rfl rfl) rfl rfl rfl (dop_call [] [] [] rfl (ev1 rfl) (ec (ev2 rfl) en) rfl rfl (show_0) rfl rfl rfl rfl rfl rfl) ?_
        refine walk_gr (gd_t rfl rfl rfl) rfl rfl rfl (op_build0 rfl fl24 zr24) ?_
        refine walk_gr (gd_t rfl rfl rfl) rfl rfl rfl (dop_call [] [] [] rfl (ev1 rfl) (ec (evwk (ev2 rfl) wk_n0) (ec (evwk (ev2 rfl) wk_n0) en)) rfl rfl (same_d 0 0 0 0 [] [] (by simp)) rfl rfl rfl rfl rfl rfl) ?_
        refine zab rfl rfl rfl (op_and rfl (ev1 rfl) (ev3 rfl id)) ?_
        refine zab rfl rfl rfl (zac (.inl rfl) (ev1 rfl)) ?_
        refine walk_gr (gd_t rfl rfl rfl) rfl rfl rfl (zac (.inl rfl) (ev1 rfl)) ?_
        refine walk_gr (gd_t rfl rfl rfl) rfl rfl rfl (op_build0 rfl fl47 zr47) ?_
        refine walk_gr (gd_t rfl rfl rfl) rfl rfl rfl (op_bs (ps := [(0, .tmp 157)]) rfl sl60 zr47 rfl (vc (ev2 rfl) vn) rfl (by decide) (by decide)) ?_
        refine walk_gr (gd_t rfl rfl rfl) rfl rfl rfl (dop_call [] [] [] rfl (ev1 rfl) (ec (ev2 rfl) (ec (ev2 rfl) en)) rfl rfl (with_n _) rfl rfl rfl rfl rfl rfl) ?_
        refine walk_gr (gd_t rfl rfl rfl) rfl rfl rfl (op_pnil0 rfl pt32 (ev2 rfl)) ?_
        refine zab rfl rfl rfl (op_and rfl (ev1 rfl) (ev3 rfl id)) ?_
        refine zab rfl rfl rfl (zac (.inl rfl) (ev1 rfl)) ?_
        refine walk_gr (gd_t rfl rfl rfl) rfl rfl rfl (zac (.inl rfl) (ev1 rfl)) ?_
        refine walk_gr (gd_t rfl rfl rfl) rfl rfl rfl (dop_call [] [] [] rfl (ev1 rfl) (ec (ev2 rfl) (ec (ev1 rfl) en)) rfl rfl (same_00) rfl rfl rfl rfl rfl rfl) ?_
        refine zab rfl rfl rfl (op_and rfl (ev1 rfl) (ev3 rfl id)) ?_
        refine zab rfl rfl rfl (zac (.inl rfl) (ev1 rfl)) ?_
        refine walk_gr (gd_t rfl rfl rfl) rfl rfl rfl (zac (.inl rfl) (ev1 rfl)) ?_
        refine walk_gr (gd_t rfl rfl rfl) rfl rfl rfl (zac (.inl rfl) (ev1 rfl)) ?_
        refine walk_gr (gd_t rfl rfl rfl) rfl rfl rfl (dop_call [] [] [] rfl (ev1 rfl) (ec (ev2 rfl) (ec (ev2 rfl) en)) rfl rfl (same_01 _ _ _) rfl rfl rfl rfl rfl rfl) ?_
        refine walk_gr (gd_t rfl rfl rfl) rfl rfl rfl (zac (.inl rfl) (ev1 rfl)) ?_
        refine walk_gr (gd_t rfl rfl rfl) rfl rfl rfl (op_not rfl (ev2 rfl)) ?_
        refine walk_gr (gd_t rfl rfl rfl) rfl rfl rfl (op_eqb rfl un4 (ev2 rfl) (ev2 rfl)) ?_
        refine zab rfl rfl rfl (op_and rfl (ev1 rfl) (ev3 rfl id)) ?_
        refine zab rfl rfl rfl (zac (.inl rfl) (ev1 rfl)) ?_
        refine walk_gr (gd_t rfl rfl rfl) rfl rfl rfl (zac (.inl rfl) (ev1 rfl)) ?_
        refine walk_gr (gd_t rfl rfl rfl) rfl rfl rfl (zac (.inl rfl) (ev1 rfl)) ?_
        refine walk_gr (gd_t rfl rfl rfl) rfl rfl rfl (dop_call [] [] [] rfl (ev1 rfl) (ec (ev2 rfl) (ec (ev2 rfl) en)) rfl rfl (differ_01 _ _ _) rfl rfl rfl rfl rfl rfl) ?_
        refine walk_gr (gd_t rfl rfl rfl) rfl rfl rfl (op_len rfl sl25 (evwk (ev2 rfl) (Wk.slf0 2))) ?_
        refine walk_gr (gd_t rfl rfl rfl) rfl rfl rfl ((op_eql rfl (ev2 rfl) (ev1 rfl)).cast (d' := .val (.bool true)) (by kernel_rfl)) ?_
        refine zab rfl rfl rfl (op_and rfl (ev1 rfl) (ev3 rfl id)) ?_
        refine zab rfl rfl rfl (zac (.inl rfl) (ev1 rfl)) ?_
        refine walk_gr (gd_t rfl rfl rfl) rfl rfl rfl (zac (.inl rfl) (ev1 rfl)) ?_
        refine walk_gr (gd_t rfl rfl rfl) rfl rfl rfl (zac (.inl rfl) (ev1 rfl)) ?_
        refine walk_gr (gd_t rfl rfl rfl) rfl rfl rfl (dop_call [] [] [] rfl (ev1 rfl) (ec (ev2 rfl) (ec (ev2 rfl) en)) rfl rfl (shared_0 _) rfl rfl rfl rfl rfl rfl) ?_
        refine walk_gr (gd_t rfl rfl rfl) rfl rfl rfl (op_eql rfl (ev2 rfl) (ev1 rfl)) ?_
        refine zab rfl rfl rfl (op_and rfl (ev1 rfl) (ev3 rfl id)) ?_
        refine zab rfl rfl rfl (zac (.inr rfl) (ev1 rfl)) ?_
        refine zaf ?_
        refine dwp_ret ?_
        refine kend0 (rs1 rfl (rv_t rfl)) rfl ?_
        first | rfl | simp [hother]
      · refine zad ?_
        refine zab rfl rfl rfl (op_ldmw rfl tb24 (ev1 rfl) rfl rfl) ?_
        refine zab rfl rfl rfl (dop_call [] [] [] rfl (ev1 rfl) (ec (ev1 rfl) en) rfl rfl (of_0 w2 h2 U (by simpa using hother)) rfl rfl rfl rfl rfl rfl) ?_
        refine zab rfl rfl rfl (zac (.inl rfl) (ev1 rfl)) ?_
        refine zab rfl rfl rfl (op_ext rfl (ev1 rfl) rfl) ?_
        refine zab rfl rfl rfl (op_ext rfl (ev1 rfl) rfl) ?_
        refine zab rfl rfl rfl (zac (.inr rfl) (ev1 rfl)) ?_
        refine zab rfl rfl rfl (zac (.inr rfl) (ev1 rfl)) ?_
        refine zaf ?_
        refine zae ?_
        refine zae ?_
        refine zad ?_
        refine zab rfl rfl rfl (zac (.inl rfl) (ev1 rfl)) ?_
        refine zab rfl rfl rfl (op_not rfl (ev1 rfl)) ?_
        refine zaf ?_
        refine dwp_if_t rfl (by rw [hright2]; rfl) ?_
        refine zae ?_
        refine dwp_holes 1 (by simp only [holes, List.cons_append, List.nil_append]; exact rfl) ?_
        refine zad ?_
        refine zab rfl rfl rfl (zac (.inl rfl) (ev1 rfl)) ?_
        refine zab rfl rfl rfl (dop_call [] [] [] rfl (ev1 rfl) (ec (ev1 rfl) (ec (ev1 rfl) (ec (ev1 rfl) en))) rfl rfl (at_0 0 0) rfl rfl rfl rfl rfl rfl) ?_
        refine zab rfl rfl rfl (zac (.inl rfl) (ev1 rfl)) ?_
        refine zab rfl rfl rfl (op_ext rfl (ev1 rfl) rfl) ?_
        refine zab rfl rfl rfl (op_ext rfl (ev1 rfl) rfl) ?_
        refine walk_w rfl rfl rfl (op_alloc 5 rfl zr40 rfl) (by simp only [upd, za, zaa]; exact rfl) ?_
        refine walk_s rfl rfl (op_stwa rfl tb40 (ev1 rfl) (ev1 rfl) rfl rfl rfl rfl) (by simp only [upd, za, zaa]; exact rfl) ?_
        refine zab rfl rfl rfl (zac (.inr rfl) (ev1 rfl)) ?_
        refine zaf ?_
        refine zae ?_
        refine zad ?_
        refine zab rfl rfl rfl (zac (.inl rfl) (ev1 rfl)) ?_
        refine zab rfl rfl rfl (dop_call [] [] [] rfl (ev1 rfl) (ec (ev1 rfl) en) rfl rfl (size_0) rfl rfl rfl rfl rfl rfl) ?_
        refine zab rfl rfl rfl (zac (.inl rfl) (ev1 rfl)) ?_
        refine zab rfl rfl rfl (op_ext rfl (ev1 rfl) rfl) ?_
        refine zab rfl rfl rfl (op_ext rfl (ev1 rfl) rfl) ?_
        refine zab rfl rfl rfl (zac (.inr rfl) (ev1 rfl)) ?_
        refine zab rfl rfl rfl (zac (.inr rfl) (ev1 rfl)) ?_
        refine zaf ?_
        refine zae ?_
        refine zad ?_
        refine zab rfl rfl rfl (zac (.inl rfl) (ev1 rfl)) ?_
        refine zab rfl rfl rfl ((op_eql rfl (ev1 rfl) (ev1 rfl)).cast (d' := .val (.bool true)) (by kernel_rfl)) ?_
        refine zab rfl rfl rfl (zac (.inl rfl) (ev1 rfl)) ?_
        refine walk_k (gd_t (b := true) rfl rfl rfl) rfl rfl rfl (zac (.inl rfl) (ev1 rfl)) (by simp only [upd, za, zaa]; exact rfl) ?_
        refine walk_k (gd_t (b := true) rfl rfl rfl) rfl rfl rfl (op_pnil0 rfl pt32 (ev2 rfl)) (by simp only [upd, za, zaa]; exact rfl) ?_
        refine zab rfl rfl rfl ((op_and rfl (ev1 rfl) (ev3 rfl (fun _ => rfl))).cast (d' := .val (.bool true)) (by rfl)) ?_
        refine zab rfl rfl rfl (zac (.inl rfl) (ev1 rfl)) ?_
        refine walk_k (gd_t (b := true) rfl rfl rfl) rfl rfl rfl (zac (.inl rfl) (ev1 rfl)) (by simp only [upd, za, zaa]; exact rfl) ?_
        refine walk_k (gd_t (b := true) rfl rfl rfl) rfl rfl rfl (op_not rfl (ev2 rfl)) (by simp only [upd, za, zaa]; exact rfl) ?_
        refine zab rfl rfl rfl (op_and rfl (ev1 rfl) (ev3 rfl (fun _ => rfl))) ?_
        refine zab rfl rfl rfl (zac (.inl rfl) (ev1 rfl)) ?_
        refine walk_gr (gd_t rfl rfl rfl) rfl rfl rfl (zac (.inl rfl) (ev1 rfl)) ?_
        refine walk_gr (gd_t rfl rfl rfl) rfl rfl rfl (zac (.inl rfl) (ev1 rfl)) ?_
        refine walk_gr (gd_t rfl rfl rfl) rfl rfl rfl (op_add' rfl (ev2 rfl) (ev2 rfl) (fun hp => IntWalk.i64_in _ (by first | omega | (simp at hp; omega)))) ?_
        refine walk_gr (gd_t rfl rfl rfl) rfl rfl rfl (op_eql rfl (ev2 rfl) (ev1 rfl)) ?_
        refine zab rfl rfl rfl (op_and rfl (ev1 rfl) (ev3 rfl id)) ?_
        refine zab rfl rfl rfl (zac (.inl rfl) (ev1 rfl)) ?_
        refine walk_gr (gd_t rfl rfl rfl) rfl rfl rfl (zac (.inl rfl) (ev1 rfl)) ?_
        refine walk_gr (gd_t rfl rfl rfl) rfl rfl rfl (dop_call [] [] [] rfl (ev1 rfl) (ec (ev2 rfl) en) rfl rfl (show_0) rfl rfl rfl rfl rfl rfl) ?_
        refine walk_gr (gd_t rfl rfl rfl) rfl rfl rfl (op_build0 rfl fl24 zr24) ?_
        refine walk_gr (gd_t rfl rfl rfl) rfl rfl rfl (dop_call [] [] [] rfl (ev1 rfl) (ec (evwk (ev2 rfl) wk_n0) (ec (evwk (ev2 rfl) wk_n0) en)) rfl rfl (same_d 0 0 0 0 [] [] (by simp)) rfl rfl rfl rfl rfl rfl) ?_
        refine zab rfl rfl rfl (op_and rfl (ev1 rfl) (ev3 rfl id)) ?_
        refine zab rfl rfl rfl (zac (.inl rfl) (ev1 rfl)) ?_
        refine walk_gr (gd_t rfl rfl rfl) rfl rfl rfl (zac (.inl rfl) (ev1 rfl)) ?_
        refine walk_gr (gd_t rfl rfl rfl) rfl rfl rfl (op_build0 rfl fl47 zr47) ?_
        refine walk_gr (gd_t rfl rfl rfl) rfl rfl rfl (op_bs (ps := [(0, .tmp 157)]) rfl sl60 zr47 rfl (vc (ev2 rfl) vn) rfl (by decide) (by decide)) ?_
        refine walk_gr (gd_t rfl rfl rfl) rfl rfl rfl (dop_call [] [] [] rfl (ev1 rfl) (ec (ev2 rfl) (ec (ev2 rfl) en)) rfl rfl (with_n _) rfl rfl rfl rfl rfl rfl) ?_
        refine walk_gr (gd_t rfl rfl rfl) rfl rfl rfl (op_pnil0 rfl pt32 (ev2 rfl)) ?_
        refine zab rfl rfl rfl (op_and rfl (ev1 rfl) (ev3 rfl id)) ?_
        refine zab rfl rfl rfl (zac (.inl rfl) (ev1 rfl)) ?_
        refine walk_gr (gd_t rfl rfl rfl) rfl rfl rfl (zac (.inl rfl) (ev1 rfl)) ?_
        refine walk_gr (gd_t rfl rfl rfl) rfl rfl rfl (dop_call [] [] [] rfl (ev1 rfl) (ec (ev2 rfl) (ec (ev1 rfl) en)) rfl rfl (same_00) rfl rfl rfl rfl rfl rfl) ?_
        refine zab rfl rfl rfl (op_and rfl (ev1 rfl) (ev3 rfl id)) ?_
        refine zab rfl rfl rfl (zac (.inl rfl) (ev1 rfl)) ?_
        refine walk_gr (gd_t rfl rfl rfl) rfl rfl rfl (zac (.inl rfl) (ev1 rfl)) ?_
        refine walk_gr (gd_t rfl rfl rfl) rfl rfl rfl (zac (.inl rfl) (ev1 rfl)) ?_
        refine walk_gr (gd_t rfl rfl rfl) rfl rfl rfl (dop_call [] [] [] rfl (ev1 rfl) (ec (ev2 rfl) (ec (ev2 rfl) en)) rfl rfl (same_00) rfl rfl rfl rfl rfl rfl) ?_
        refine walk_gr (gd_t rfl rfl rfl) rfl rfl rfl (zac (.inl rfl) (ev1 rfl)) ?_
        refine walk_gr (gd_t rfl rfl rfl) rfl rfl rfl (op_not rfl (ev2 rfl)) ?_
        refine walk_gr (gd_t rfl rfl rfl) rfl rfl rfl (op_eqb rfl un4 (ev2 rfl) (ev2 rfl)) ?_
        refine zab rfl rfl rfl (op_and rfl (ev1 rfl) (ev3 rfl id)) ?_
        refine zab rfl rfl rfl (zac (.inl rfl) (ev1 rfl)) ?_
        refine walk_gr (gd_t rfl rfl rfl) rfl rfl rfl (zac (.inl rfl) (ev1 rfl)) ?_
        refine walk_gr (gd_t rfl rfl rfl) rfl rfl rfl (zac (.inl rfl) (ev1 rfl)) ?_
        refine walk_gr (gd_t rfl rfl rfl) rfl rfl rfl (dop_call [] [] [] rfl (ev1 rfl) (ec (ev2 rfl) (ec (ev2 rfl) en)) rfl rfl (differ_00) rfl rfl rfl rfl rfl rfl) ?_
        refine walk_gr (gd_t rfl rfl rfl) rfl rfl rfl (op_len rfl sl25 (evwk (ev2 rfl) (Wk.slf0 2))) ?_
        refine walk_gr (gd_t rfl rfl rfl) rfl rfl rfl ((op_eql rfl (ev2 rfl) (ev1 rfl)).cast (d' := .val (.bool true)) (by kernel_rfl)) ?_
        refine zab rfl rfl rfl (op_and rfl (ev1 rfl) (ev3 rfl id)) ?_
        refine zab rfl rfl rfl (zac (.inl rfl) (ev1 rfl)) ?_
        refine walk_gr (gd_t rfl rfl rfl) rfl rfl rfl (zac (.inl rfl) (ev1 rfl)) ?_
        refine walk_gr (gd_t rfl rfl rfl) rfl rfl rfl (zac (.inl rfl) (ev1 rfl)) ?_
        refine walk_gr (gd_t rfl rfl rfl) rfl rfl rfl (dop_call [] [] [] rfl (ev1 rfl) (ec (ev2 rfl) (ec (ev2 rfl) en)) rfl rfl (shared_0 _) rfl rfl rfl rfl rfl rfl) ?_
        refine walk_gr (gd_t rfl rfl rfl) rfl rfl rfl (op_eql rfl (ev2 rfl) (ev1 rfl)) ?_
        refine zab rfl rfl rfl (op_and rfl (ev1 rfl) (ev3 rfl id)) ?_
        refine zab rfl rfl rfl (zac (.inr rfl) (ev1 rfl)) ?_
        refine zaf ?_
        refine dwp_ret ?_
        refine kend0 (rs1 rfl (rv_t rfl)) rfl ?_
        first | rfl | simp [hother]
    · refine zad ?_
      refine zab rfl rfl rfl (op_fa rfl fo24_0 (ev1 rfl)) ?_
      refine zab rfl rfl rfl (op_ldm rfl tb3 (ev1 rfl) rfl rfl) ?_
      refine zab rfl rfl rfl (op_fa rfl fo24_1 (ev1 rfl)) ?_
      refine zab rfl rfl rfl (op_ldm rfl tb3 (ev1 rfl) rfl rfl) ?_
      refine zab rfl rfl rfl (dop_call [] [] [] rfl (ev1 rfl) (ec (ev1 rfl) (ec (ev1 rfl) en)) rfl rfl (cnew_0 w h (by simpa using hmay)) rfl rfl rfl rfl rfl rfl) ?_
      refine zab rfl rfl rfl (zac (.inl rfl) (ev1 rfl)) ?_
      refine zab rfl rfl rfl (op_ext rfl (ev1 rfl) rfl) ?_
      refine zab rfl rfl rfl (op_ext rfl (ev1 rfl) rfl) ?_
      refine zab rfl rfl rfl (zac (.inr rfl) (ev1 rfl)) ?_
      refine zab rfl rfl rfl (zac (.inr rfl) (ev1 rfl)) ?_
      refine zaf ?_
      refine zae ?_
      refine zae ?_
      refine zad ?_
      refine zab rfl rfl rfl (op_fa rfl fo24_0 (ev1 rfl)) ?_
      refine zab rfl rfl rfl (op_ldm rfl tb3 (ev1 rfl) rfl rfl) ?_
      refine zab rfl rfl rfl (op_fa rfl fo24_1 (ev1 rfl)) ?_
      refine zab rfl rfl rfl (op_ldm rfl tb3 (ev1 rfl) rfl rfl) ?_
      refine zab rfl rfl rfl ((dop_call [] [] [] rfl (ev1 rfl) (ec (ev1 rfl) (ec (ev1 rfl) en)) rfl rfl (rsizes_d _ _) rfl rfl rfl rfl rfl rfl).cast (d' := .val (.bool false)) (by rw [show mayS w h = false by simpa using hmay])) ?_
      refine zab rfl rfl rfl (zac (.inr rfl) (ev1 rfl)) ?_
      refine zaf ?_
      refine zae ?_
      have hmay2 : mayS w h = false := by simpa using hmay
      refine dwp_draw [([], []), ([], []), ([], []), ([], []), ([], []), ([], []), ([], []), ([], []), ([], []), ([], []), ([], []), ([], []), ([], []), ([], []), ([], []), ([], []), ([], []), ([], []), ([], []), ([], []), ([], []), ([], []), ([], []), ([], []), ([], []), ([], []), ([], []), ([], []), ([], []), ([], [])] mixed (by kernel_rfl) ?_
      refine zag rfl rfl (zac (.inl rfl) (ev1 rfl)) ?_
      refine zag rfl rfl ((op_eql rfl (ev1 rfl) (ev1 rfl)).cast (d' := .val (.bool false)) (by kernel_rfl)) ?_
      refine zag rfl rfl (zac (.inl rfl) (ev1 rfl)) ?_
      refine zag rfl rfl ((op_neb rfl un4 (ev1 rfl) (ev1 rfl)).cast (d' := .val (.bool false)) (by kernel_rfl)) ?_
      refine zag rfl rfl (zac (.inl rfl) (ev1 rfl)) ?_
      refine lex_k (gd_f (b := false) rfl rfl rfl) rfl rfl (zac (.inl rfl) (ev1 rfl)) rfl (by simp only [upd, za, zaa]; exact rfl) ?_
      refine lex_k (gd_f (b := false) rfl rfl rfl) rfl rfl ((op_not rfl (ev2 rfl)).cast (d' := .val (.bool true)) (by kernel_rfl)) rfl (by simp only [upd, za, zaa]; exact rfl) ?_
      refine lex_k (gd_f (b := false) rfl rfl rfl) rfl rfl (zac (.inl rfl) (ev2 rfl)) rfl (by simp only [upd, za, zaa]; exact rfl) ?_
      refine lex_k (gd_tt (g := true) (b := true) rfl rfl rfl) rfl rfl (zac (.inl rfl) (ev1 rfl)) rfl (by simp only [upd, za, zaa]; exact rfl) ?_
      refine lex_k (gd_tt (g := true) (b := true) rfl rfl rfl) rfl rfl ((op_neq rfl (ev2 rfl) (ev1 rfl)).cast (d' := .val (.bool false)) (by kernel_rfl)) rfl (by simp only [upd, za, zaa]; exact rfl) ?_
      refine lex_k (gd_tt (g := true) (b := true) rfl rfl rfl) rfl rfl (zac (.inl rfl) (ev2 rfl)) rfl (by simp only [upd, za, zaa]; exact rfl) ?_
      refine lex_k (gd_ff (g := true) (b := false) rfl rfl rfl) rfl rfl (zac (.inl rfl) (ev1 rfl)) rfl (by simp only [upd, za, zaa]; exact rfl) ?_
      refine lex_k (gd_ff (g := true) (b := false) rfl rfl rfl) rfl rfl (op_pnil0n rfl pt32 (ev2 rfl)) rfl (by simp only [upd, za, zaa]; exact rfl) ?_
      refine lex_k (gd_tt (g := true) (b := true) rfl rfl rfl) rfl rfl ((op_or rfl (ev2 rfl) (ev3 rfl (fun _ => rfl))).cast (d' := .val (.bool false)) (by rfl)) rfl (by simp only [upd, za, zaa]; exact rfl) ?_
      refine lex_k (gd_f (b := false) rfl rfl rfl) rfl rfl ((op_and rfl (ev2 rfl) (ev3 rfl (fun _ => rfl))).cast (d' := .val (.bool false)) (by rfl)) rfl (by simp only [upd, za, zaa]; exact rfl) ?_
      refine zag rfl rfl ((op_or rfl (ev1 rfl) (ev3 rfl (fun _ => rfl))).cast (d' := .val (.bool false)) (by rfl)) ?_
      refine zag rfl rfl (zac (.inl rfl) (ev1 rfl)) ?_
      refine lex_k (gd_f (b := false) rfl rfl rfl) rfl rfl (zac (.inl rfl) (ev1 rfl)) rfl (by simp only [upd, za, zaa]; exact rfl) ?_
      refine lex_k (gd_f (b := false) rfl rfl rfl) rfl rfl (zac (.inl rfl) (ev2 rfl)) rfl (by simp only [upd, za, zaa]; exact rfl) ?_
      refine lex_gr (gd_tt (g := true) (b := false) rfl rfl rfl) rfl rfl (dop_never (d := .junk)) ?_
      refine lex_gr (gd_tt (g := true) (b := false) rfl rfl rfl) rfl rfl (dop_never (d := .junk)) ?_
      refine lex_gr (gd_tt (g := true) (b := false) rfl rfl rfl) rfl rfl (dop_never (d := .junk)) ?_
      refine lex_gr (gd_tt (g := true) (b := false) rfl rfl rfl) rfl rfl (dop_never (d := .junk)) ?_
      refine lex_gr (gd_tt (g := true) (b := false) rfl rfl rfl) rfl rfl (dop_never (d := .junk)) ?_
      refine lex_gr (gd_tt (g := true) (b := false) rfl rfl rfl) rfl rfl (dop_never (d := .junk)) ?_
      refine lex_gr (gd_tt (g := true) (b := false) rfl rfl rfl) rfl rfl (dop_never (d := .junk)) ?_
      refine lex_gr (gd_tt (g := true) (b := false) rfl rfl rfl) rfl rfl (dop_never (d := .val (.bool false))) ?_
      refine lex_gr (gd_tt (g := true) (b := false) rfl rfl rfl) rfl rfl (dop_never (d := .val (.bool false))) ?_
      refine lex_k (gd_f (b := false) rfl rfl rfl) rfl rfl ((op_and rfl (ev2 rfl) (ev3 rfl id)).cast (d' := .val (.bool false)) (by rfl)) rfl (by simp only [upd, za, zaa]; exact rfl) ?_
      refine zag rfl rfl ((op_or rfl (ev1 rfl) (ev3 rfl (fun _ => rfl))).cast (d' := .val (.bool false)) (by rfl)) ?_
      refine lex_nil ?_
      refine dwp_if_f rfl (rfl) ?_
      refine dwp_skip ?_
      refine zae ?_
      have hright2 : rightB w h T = false := by simpa using hright
      refine zad ?_
      refine zab rfl rfl rfl (op_ldmw rfl tb24 (ev1 rfl) rfl rfl) ?_
      refine zab rfl rfl rfl (dop_call [] [2] [] rfl (ev1 rfl) (ec (ev1 rfl) en) rfl rfl (of_0 w h T (by simpa using hright)) rfl rfl rfl rfl rfl rfl) ?_
      refine zab rfl rfl rfl (zac (.inl rfl) (ev1 rfl)) ?_
      refine zab rfl rfl rfl (op_ext rfl (ev1 rfl) rfl) ?_
      refine zab rfl rfl rfl (op_ext rfl (ev1 rfl) rfl) ?_
      refine zab rfl rfl rfl (zac (.inr rfl) (ev1 rfl)) ?_
      refine zab rfl rfl rfl (zac (.inr rfl) (ev1 rfl)) ?_
      refine zaf ?_
      refine zae ?_
      by_cases hother : rightB w2 h2 U = true
      · have hd := rightB_ok hother
        refine zad ?_
        refine zab rfl rfl rfl (op_ldmw rfl tb24 (ev1 rfl) rfl rfl) ?_
        refine zab rfl rfl rfl (dop_call [] [] [] rfl (ev1 rfl) (ec (ev1 rfl) en) rfl rfl (of_d w2 h2 U hd) rfl rfl rfl rfl rfl rfl) ?_
        refine zab rfl rfl rfl (zac (.inl rfl) (ev1 rfl)) ?_
        refine zab rfl rfl rfl (op_ext rfl (ev1 rfl) rfl) ?_
        refine zab rfl rfl rfl (op_ext rfl (ev1 rfl) rfl) ?_
        refine zab rfl rfl rfl (zac (.inr rfl) (ev1 rfl)) ?_
        refine zab rfl rfl rfl (zac (.inr rfl) (ev1 rfl)) ?_
        refine zaf ?_
        refine zae ?_
        refine zae ?_
        refine zad ?_
        refine zab rfl rfl rfl (zac (.inl rfl) (ev1 rfl)) ?_
        refine zab rfl rfl rfl (op_not rfl (ev1 rfl)) ?_
        refine zaf ?_
        refine dwp_if_t rfl (by rw [hright2]; rfl) ?_
        refine zae ?_
        refine dwp_holes 1 (by simp only [holes, List.cons_append, List.nil_append]; exact rfl) ?_
        refine zad ?_
        refine zab rfl rfl rfl (zac (.inl rfl) (ev1 rfl)) ?_
        refine zab rfl rfl rfl (dop_call [] [] [] rfl (ev1 rfl) (ec (ev1 rfl) (ec (ev1 rfl) (ec (ev1 rfl) en))) rfl rfl (at_0 0 0) rfl rfl rfl rfl rfl rfl) ?_
        refine zab rfl rfl rfl (zac (.inl rfl) (ev1 rfl)) ?_
        refine zab rfl rfl rfl (op_ext rfl (ev1 rfl) rfl) ?_
        refine zab rfl rfl rfl (op_ext rfl (ev1 rfl) rfl) ?_
        refine walk_w rfl rfl rfl (op_alloc 5 rfl zr40 rfl) (by simp only [upd, za, zaa]; exact rfl) ?_
        refine walk_s rfl rfl (op_stwa rfl tb40 (ev1 rfl) (ev1 rfl) rfl rfl rfl rfl) (by simp only [upd, za, zaa]; exact rfl) ?_
        refine zab rfl rfl rfl (zac (.inr rfl) (ev1 rfl)) ?_
        refine zaf ?_
        refine zae ?_
        refine zad ?_
        refine zab rfl rfl rfl (zac (.inl rfl) (ev1 rfl)) ?_
        refine zab rfl rfl rfl (dop_call [] [] [] rfl (ev1 rfl) (ec (ev1 rfl) en) rfl rfl (size_0) rfl rfl rfl rfl rfl rfl) ?_
        refine zab rfl rfl rfl (zac (.inl rfl) (ev1 rfl)) ?_
        refine zab rfl rfl rfl (op_ext rfl (ev1 rfl) rfl) ?_
        refine zab rfl rfl rfl (op_ext rfl (ev1 rfl) rfl) ?_
        refine zab rfl rfl rfl (zac (.inr rfl) (ev1 rfl)) ?_
        refine zab rfl rfl rfl (zac (.inr rfl) (ev1 rfl)) ?_
        refine zaf ?_
        refine zae ?_
        refine zad ?_
        refine zab rfl rfl rfl (zac (.inl rfl) (ev1 rfl)) ?_
        refine zab rfl rfl rfl ((op_eql rfl (ev1 rfl) (ev1 rfl)).cast (d' := .val (.bool true)) (by kernel_rfl)) ?_
        refine zab rfl rfl rfl (zac (.inl rfl) (ev1 rfl)) ?_
        refine walk_k (gd_t (b := true) rfl rfl rfl) rfl rfl rfl (zac (.inl rfl) (ev1 rfl)) (by simp only [upd, za, zaa]; exact rfl) ?_
        refine walk_k (gd_t (b := true) rfl rfl rfl) rfl rfl rfl (op_pnil0 rfl pt32 (ev2 rfl)) (by simp only [upd, za, zaa]; exact rfl) ?_
        refine zab rfl rfl rfl ((op_and rfl (ev1 rfl) (ev3 rfl (fun _ => rfl))).cast (d' := .val (.bool true)) (by rfl)) ?_
        refine zab rfl rfl rfl (zac (.inl rfl) (ev1 rfl)) ?_
        refine walk_k (gd_t (b := true) rfl rfl rfl) rfl rfl rfl (zac (.inl rfl) (ev1 rfl)) (by simp only [upd, za, zaa]; exact rfl) ?_
        refine walk_k (gd_t (b := true) rfl rfl rfl) rfl rfl rfl (op_not rfl (ev2 rfl)) (by simp only [upd, za, zaa]; exact rfl) ?_
        refine zab rfl rfl rfl (op_and rfl (ev1 rfl) (ev3 rfl (fun _ => rfl))) ?_
        refine zab rfl rfl rfl (zac (.inl rfl) (ev1 rfl)) ?_
        refine walk_gr (gd_t rfl rfl rfl) rfl rfl rfl (zac (.inl rfl) (ev1 rfl)) ?_
        refine walk_gr (gd_t rfl rfl rfl) rfl rfl rfl (zac (.inl rfl) (ev1 rfl)) ?_
        refine walk_gr (gd_t rfl rfl rfl) rfl rfl rfl (op_add' rfl (ev2 rfl) (ev2 rfl) (fun hp => IntWalk.i64_in _ (by first | omega | (simp at hp; omega)))) ?_
        refine walk_gr (gd_t rfl rfl rfl) rfl rfl rfl (op_eql rfl (ev2 rfl) (ev1 rfl)) ?_
        refine zab rfl rfl rfl (op_and rfl (ev1 rfl) (ev3 rfl id)) ?_
        refine zab rfl rfl rfl (zac (.inl rfl) (ev1 rfl)) ?_
        refine walk_gr (gd_t rfl rfl rfl) rfl rfl rfl (zac (.inl rfl) (ev1 rfl)) ?_
        refine walk_gr (gd_t rfl rfl rfl) rfl rfl rfl (dop_call [] [] [] rfl (ev1 rfl) (ec (ev2 rfl) en) rfl rfl (show_0) rfl rfl rfl rfl rfl rfl) ?_
        refine walk_gr (gd_t rfl rfl rfl) rfl rfl rfl (op_build0 rfl fl24 zr24) ?_
        refine walk_gr (gd_t rfl rfl rfl) rfl rfl rfl (dop_call [] [] [] rfl (ev1 rfl) (ec (evwk (ev2 rfl) wk_n0) (ec (evwk (ev2 rfl) wk_n0) en)) rfl rfl (same_d 0 0 0 0 [] [] (by simp)) rfl rfl rfl rfl rfl rfl) ?_
        refine zab rfl rfl rfl (op_and rfl (ev1 rfl) (ev3 rfl id)) ?_
        refine zab rfl rfl rfl (zac (.inl rfl) (ev1 rfl)) ?_
        refine walk_gr (gd_t rfl rfl rfl) rfl rfl rfl (zac (.inl rfl) (ev1 rfl)) ?_
        refine walk_gr (gd_t rfl rfl rfl) rfl rfl rfl (op_build0 rfl fl47 zr47) ?_
        refine walk_gr (gd_t rfl rfl rfl) rfl rfl rfl (op_bs (ps := [(0, .tmp 157)]) rfl sl60 zr47 rfl (vc (ev2 rfl) vn) rfl (by decide) (by decide)) ?_
        refine walk_gr (gd_t rfl rfl rfl) rfl rfl rfl (dop_call [] [] [] rfl (ev1 rfl) (ec (ev2 rfl) (ec (ev2 rfl) en)) rfl rfl (with_n _) rfl rfl rfl rfl rfl rfl) ?_
        refine walk_gr (gd_t rfl rfl rfl) rfl rfl rfl (op_pnil0 rfl pt32 (ev2 rfl)) ?_
        refine zab rfl rfl rfl (op_and rfl (ev1 rfl) (ev3 rfl id)) ?_
        refine zab rfl rfl rfl (zac (.inl rfl) (ev1 rfl)) ?_
        refine walk_gr (gd_t rfl rfl rfl) rfl rfl rfl (zac (.inl rfl) (ev1 rfl)) ?_
        refine walk_gr (gd_t rfl rfl rfl) rfl rfl rfl (dop_call [] [] [] rfl (ev1 rfl) (ec (ev2 rfl) (ec (ev1 rfl) en)) rfl rfl (same_00) rfl rfl rfl rfl rfl rfl) ?_
        refine zab rfl rfl rfl (op_and rfl (ev1 rfl) (ev3 rfl id)) ?_
        refine zab rfl rfl rfl (zac (.inl rfl) (ev1 rfl)) ?_
        refine walk_gr (gd_t rfl rfl rfl) rfl rfl rfl (zac (.inl rfl) (ev1 rfl)) ?_
        refine walk_gr (gd_t rfl rfl rfl) rfl rfl rfl (zac (.inl rfl) (ev1 rfl)) ?_
        refine walk_gr (gd_t rfl rfl rfl) rfl rfl rfl (dop_call [] [] [] rfl (ev1 rfl) (ec (ev2 rfl) (ec (ev2 rfl) en)) rfl rfl (same_01 _ _ _) rfl rfl rfl rfl rfl rfl) ?_
        refine walk_gr (gd_t rfl rfl rfl) rfl rfl rfl (zac (.inl rfl) (ev1 rfl)) ?_
        refine walk_gr (gd_t rfl rfl rfl) rfl rfl rfl (op_not rfl (ev2 rfl)) ?_
        refine walk_gr (gd_t rfl rfl rfl) rfl rfl rfl (op_eqb rfl un4 (ev2 rfl) (ev2 rfl)) ?_
        refine zab rfl rfl rfl (op_and rfl (ev1 rfl) (ev3 rfl id)) ?_
        refine zab rfl rfl rfl (zac (.inl rfl) (ev1 rfl)) ?_
        refine walk_gr (gd_t rfl rfl rfl) rfl rfl rfl (zac (.inl rfl) (ev1 rfl)) ?_
        refine walk_gr (gd_t rfl rfl rfl) rfl rfl rfl (zac (.inl rfl) (ev1 rfl)) ?_
        refine walk_gr (gd_t rfl rfl rfl) rfl rfl rfl (dop_call [] [] [] rfl (ev1 rfl) (ec (ev2 rfl) (ec (ev2 rfl) en)) rfl rfl (differ_01 _ _ _) rfl rfl rfl rfl rfl rfl) ?_
        refine walk_gr (gd_t rfl rfl rfl) rfl rfl rfl (op_len rfl sl25 (evwk (ev2 rfl) (Wk.slf0 2))) ?_
        refine walk_gr (gd_t rfl rfl rfl) rfl rfl rfl ((op_eql rfl (ev2 rfl) (ev1 rfl)).cast (d' := .val (.bool true)) (by kernel_rfl)) ?_
        refine zab rfl rfl rfl (op_and rfl (ev1 rfl) (ev3 rfl id)) ?_
        refine zab rfl rfl rfl (zac (.inl rfl) (ev1 rfl)) ?_
        refine walk_gr (gd_t rfl rfl rfl) rfl rfl rfl (zac (.inl rfl) (ev1 rfl)) ?_
        refine walk_gr (gd_t rfl rfl rfl) rfl rfl rfl (zac (.inl rfl) (ev1 rfl)) ?_
        refine walk_gr (gd_t rfl rfl rfl) rfl rfl rfl (dop_call [] [] [] rfl (ev1 rfl) (ec (ev2 rfl) (ec (ev2 rfl) en)) rfl rfl (shared_0 _) rfl rfl rfl rfl rfl rfl) ?_
        refine walk_gr (gd_t rfl rfl rfl) rfl rfl rfl (op_eql rfl (ev2 rfl) (ev1 rfl)) ?_
        refine zab rfl rfl rfl (op_and rfl (ev1 rfl) (ev3 rfl id)) ?_
        refine zab rfl rfl rfl (zac (.inr rfl) (ev1 rfl)) ?_
        refine zaf ?_
        refine dwp_ret ?_
        refine kend0 (rs1 rfl (rv_t rfl)) rfl ?_
        first | rfl | simp [hother]
      · refine zad ?_
        refine zab rfl rfl rfl (op_ldmw rfl tb24 (ev1 rfl) rfl rfl) ?_
        refine zab rfl rfl rfl (dop_call [] [] [] rfl (ev1 rfl) (ec (ev1 rfl) en) rfl rfl (of_0 w2 h2 U (by simpa using hother)) rfl rfl rfl rfl rfl rfl) ?_
        refine zab rfl rfl rfl (zac (.inl rfl) (ev1 rfl)) ?_
        refine zab rfl rfl rfl (op_ext rfl (ev1 rfl) rfl) ?_
        refine zab rfl rfl rfl (op_ext rfl (ev1 rfl) rfl) ?_
        refine zab rfl rfl rfl (zac (.inr rfl) (ev1 rfl)) ?_
        refine zab rfl rfl rfl (zac (.inr rfl) (ev1 rfl)) ?_
        refine zaf ?_
        refine zae ?_
        refine zae ?_
        refine zad ?_
        refine zab rfl rfl rfl (zac (.inl rfl) (ev1 rfl)) ?_
        refine zab rfl rfl rfl (op_not rfl (ev1 rfl)) ?_
        refine zaf ?_
        refine dwp_if_t rfl (by rw [hright2]; rfl) ?_
        refine zae ?_
        refine dwp_holes 1 (by simp only [holes, List.cons_append, List.nil_append]; exact rfl) ?_
        refine zad ?_
        refine zab rfl rfl rfl (zac (.inl rfl) (ev1 rfl)) ?_
        refine zab rfl rfl rfl (dop_call [] [] [] rfl (ev1 rfl) (ec (ev1 rfl) (ec (ev1 rfl) (ec (ev1 rfl) en))) rfl rfl (at_0 0 0) rfl rfl rfl rfl rfl rfl) ?_
        refine zab rfl rfl rfl (zac (.inl rfl) (ev1 rfl)) ?_
        refine zab rfl rfl rfl (op_ext rfl (ev1 rfl) rfl) ?_
        refine zab rfl rfl rfl (op_ext rfl (ev1 rfl) rfl) ?_
        refine walk_w rfl rfl rfl (op_alloc 5 rfl zr40 rfl) (by simp only [upd, za, zaa]; exact rfl) ?_
        refine walk_s rfl rfl (op_stwa rfl tb40 (ev1 rfl) (ev1 rfl) rfl rfl rfl rfl) (by simp only [upd, za, zaa]; exact rfl) ?_
        refine zab rfl rfl rfl (zac (.inr rfl) (ev1 rfl)) ?_
        refine zaf ?_
        refine zae ?_
        refine zad ?_
        refine zab rfl rfl rfl (zac (.inl rfl) (ev1 rfl)) ?_
        refine zab rfl rfl rfl (dop_call [] [] [] rfl (ev1 rfl) (ec (ev1 rfl) en) rfl rfl (size_0) rfl rfl rfl rfl rfl rfl) ?_
        refine zab rfl rfl rfl (zac (.inl rfl) (ev1 rfl)) ?_
        refine zab rfl rfl rfl (op_ext rfl (ev1 rfl) rfl) ?_
        refine zab rfl rfl rfl (op_ext rfl (ev1 rfl) rfl) ?_
        refine zab rfl rfl rfl (zac (.inr rfl) (ev1 rfl)) ?_
        refine zab rfl rfl rfl (zac (.inr rfl) (ev1 rfl)) ?_
        refine zaf ?_
        refine zae ?_
        refine zad ?_
        refine zab rfl rfl rfl (zac (.inl rfl) (ev1 rfl)) ?_
        refine zab rfl rfl rfl ((op_eql rfl (ev1 rfl) (ev1 rfl)).cast (d' := .val (.bool true)) (by kernel_rfl)) ?_
        refine zab rfl rfl rfl (zac (.inl rfl) (ev1 rfl)) ?_
        refine walk_k (gd_t (b := true) rfl rfl rfl) rfl rfl rfl (zac (.inl rfl) (ev1 rfl)) (by simp only [upd, za, zaa]; exact rfl) ?_
        refine walk_k (gd_t (b := true) rfl rfl rfl) rfl rfl rfl (op_pnil0 rfl pt32 (ev2 rfl)) (by simp only [upd, za, zaa]; exact rfl) ?_
        refine zab rfl rfl rfl ((op_and rfl (ev1 rfl) (ev3 rfl (fun _ => rfl))).cast (d' := .val (.bool true)) (by rfl)) ?_
        refine zab rfl rfl rfl (zac (.inl rfl) (ev1 rfl)) ?_
        refine walk_k (gd_t (b := true) rfl rfl rfl) rfl rfl rfl (zac (.inl rfl) (ev1 rfl)) (by simp only [upd, za, zaa]; exact rfl) ?_
        refine walk_k (gd_t (b := true) rfl rfl rfl) rfl rfl rfl (op_not rfl (ev2 rfl)) (by simp only [upd, za, zaa]; exact rfl) ?_
        refine zab rfl rfl rfl (op_and rfl (ev1 rfl) (ev3 rfl (fun _ => rfl))) ?_
        refine zab rfl rfl rfl (zac (.inl rfl) (ev1 rfl)) ?_
        refine walk_gr (gd_t rfl rfl rfl) rfl rfl rfl (zac (.inl rfl) (ev1 rfl)) ?_
        refine walk_gr (gd_t rfl rfl rfl) rfl rfl rfl (zac (.inl rfl) (ev1 rfl)) ?_
        refine walk_gr (gd_t rfl rfl rfl) rfl rfl rfl (op_add' rfl (ev2 rfl) (ev2 rfl) (fun hp => IntWalk.i64_in _ (by first | omega | (simp at hp; omega)))) ?_
        refine walk_gr (gd_t rfl rfl rfl) rfl rfl rfl (op_eql rfl (ev2 rfl) (ev1 rfl)) ?_
        refine zab rfl rfl rfl (op_and rfl (ev1 rfl) (ev3 rfl id)) ?_
        refine zab rfl rfl rfl (zac (.inl rfl) (ev1 rfl)) ?_
        refine walk_gr (gd_t rfl rfl rfl) rfl rfl rfl (zac (.inl rfl) (ev1 rfl)) ?_
        refine walk_gr (gd_t rfl rfl rfl) rfl rfl rfl (dop_call [] [] [] rfl (ev1 rfl) (ec (ev2 rfl) en) rfl rfl (show_0) rfl rfl rfl rfl rfl rfl) ?_
        refine walk_gr (gd_t rfl rfl rfl) rfl rfl rfl (op_build0 rfl fl24 zr24) ?_
        refine walk_gr (gd_t rfl rfl rfl) rfl rfl rfl (dop_call [] [] [] rfl (ev1 rfl) (ec (evwk (ev2 rfl) wk_n0) (ec (evwk (ev2 rfl) wk_n0) en)) rfl rfl (same_d 0 0 0 0 [] [] (by simp)) rfl rfl rfl rfl rfl rfl) ?_
        refine zab rfl rfl rfl (op_and rfl (ev1 rfl) (ev3 rfl id)) ?_
        refine zab rfl rfl rfl (zac (.inl rfl) (ev1 rfl)) ?_
        refine walk_gr (gd_t rfl rfl rfl) rfl rfl rfl (zac (.inl rfl) (ev1 rfl)) ?_
        refine walk_gr (gd_t rfl rfl rfl) rfl rfl rfl (op_build0 rfl fl47 zr47) ?_
        refine walk_gr (gd_t rfl rfl rfl) rfl rfl rfl (op_bs (ps := [(0, .tmp 157)]) rfl sl60 zr47 rfl (vc (ev2 rfl) vn) rfl (by decide) (by decide)) ?_
        refine walk_gr (gd_t rfl rfl rfl) rfl rfl rfl (dop_call [] [] [] rfl (ev1 rfl) (ec (ev2 rfl) (ec (ev2 rfl) en)) rfl rfl (with_n _) rfl rfl rfl rfl rfl rfl) ?_
        refine walk_gr (gd_t rfl rfl rfl) rfl rfl rfl (op_pnil0 rfl pt32 (ev2 rfl)) ?_
        refine zab rfl rfl rfl (op_and rfl (ev1 rfl) (ev3 rfl id)) ?_
        refine zab rfl rfl rfl (zac (.inl rfl) (ev1 rfl)) ?_
        refine walk_gr (gd_t rfl rfl rfl) rfl rfl rfl (zac (.inl rfl) (ev1 rfl)) ?_
        refine walk_gr (gd_t rfl rfl rfl) rfl rfl rfl (dop_call [] [] [] rfl (ev1 rfl) (ec (ev2 rfl) (ec (ev1 rfl) en)) rfl rfl (same_00) rfl rfl rfl rfl rfl rfl) ?_
        refine zab rfl rfl rfl (op_and rfl (ev1 rfl) (ev3 rfl id)) ?_
        refine zab rfl rfl rfl (zac (.inl rfl) (ev1 rfl)) ?_
        refine walk_gr (gd_t rfl rfl rfl) rfl rfl rfl (zac (.inl rfl) (ev1 rfl)) ?_
        refine walk_gr (gd_t rfl rfl rfl) rfl rfl rfl (zac (.inl rfl) (ev1 rfl)) ?_
        refine walk_gr (gd_t rfl rfl rfl) rfl rfl rfl (dop_call [] [] [] rfl (ev1 rfl) (ec (ev2 rfl) (ec (ev2 rfl) en)) rfl rfl (same_00) rfl rfl rfl rfl rfl rfl) ?_
        refine walk_gr (gd_t rfl rfl rfl) rfl rfl rfl (zac (.inl rfl) (ev1 rfl)) ?_
        refine walk_gr (gd_t rfl rfl rfl) rfl rfl rfl (op_not rfl (ev2 rfl)) ?_
        refine walk_gr (gd_t rfl rfl rfl) rfl rfl rfl (op_eqb rfl un4 (ev2 rfl) (ev2 rfl)) ?_
        refine zab rfl rfl rfl (op_and rfl (ev1 rfl) (ev3 rfl id)) ?_
        refine zab rfl rfl rfl (zac (.inl rfl) (ev1 rfl)) ?_
        refine walk_gr (gd_t rfl rfl rfl) rfl rfl rfl (zac (.inl rfl) (ev1 rfl)) ?_
        refine walk_gr (gd_t rfl rfl rfl) rfl rfl rfl (zac (.inl rfl) (ev1 rfl)) ?_
        refine walk_gr (gd_t rfl rfl rfl) rfl rfl rfl (dop_call [] [] [] rfl (ev1 rfl) (ec (ev2 rfl) (ec (ev2 rfl) en)) rfl rfl (differ_00) rfl rfl rfl rfl rfl rfl) ?_
        refine walk_gr (gd_t rfl rfl rfl) rfl rfl rfl (op_len rfl sl25 (evwk (ev2 rfl) (Wk.slf0 2))) ?_
        refine walk_gr (gd_t rfl rfl rfl) rfl rfl rfl ((op_eql rfl (ev2 rfl) (ev1 rfl)).cast (d' := .val (.bool true)) (by kernel_rfl)) ?_
        refine zab rfl rfl rfl (op_and rfl (ev1 rfl) (ev3 rfl id)) ?_
        refine zab rfl rfl rfl (zac (.inl rfl) (ev1 rfl)) ?_
        refine walk_gr (gd_t rfl rfl rfl) rfl rfl rfl (zac (.inl rfl) (ev1 rfl)) ?_
        refine walk_gr (gd_t rfl rfl rfl) rfl rfl rfl (zac (.inl rfl) (ev1 rfl)) ?_
        refine walk_gr (gd_t rfl rfl rfl) rfl rfl rfl (dop_call [] [] [] rfl (ev1 rfl) (ec (ev2 rfl) (ec (ev2 rfl) en)) rfl rfl (shared_0 _) rfl rfl rfl rfl rfl rfl) ?_
        refine walk_gr (gd_t rfl rfl rfl) rfl rfl rfl (op_eql rfl (ev2 rfl) (ev1 rfl)) ?_
        refine zab rfl rfl rfl (op_and rfl (ev1 rfl) (ev3 rfl id)) ?_
        refine zab rfl rfl rfl (zac (.inr rfl) (ev1 rfl)) ?_
        refine zaf ?_
        refine dwp_ret ?_
        refine kend0 (rs1 rfl (rv_t rfl)) rfl ?_
        first | rfl | simp [hother]
end Go.Proofs.Ytkhlobbkoodkmaa
