/- one of its tricks -/
import Derived.Test.YtgomklemldldiaaNa
namespace Go.Proofs.Ytgomklemldldiaa
set_option linter.unusedVariables false
set_option linter.unusedSimpArgs false
open Go.RowKit

set_option maxRecDepth 4000 in
set_option maxHeartbeats 1000000 in
theorem spl_o (P : List Par) (L : Nat) (kd : Int) (bit mask : Nat) (j : Nat) (h : j < P.length) (hsp : P[j].sp = false) (hm : mask < 2 ^ 32) (hb : bit < 8 * P[j].b.length) (hl : P[j].b.length ≤ 1000000) (hn : ∀ x ∈ P[j].b, x < 256) (h0 : ¬ ∀ k, k < P[j].b.length → ((mask <<< bit) >>> (8 * k)) % 256 = 0) : DFun Try.prog 71 [.loc 0 0, .val (.agg #[.int .i64 kd, .int .i64 (j : Int), .int .i64 (bit : Int), .int .u32 (mask : Int)])] [.mix 76 [.arr 1, .val (.int .u64 ((L : Nat) : Int))], .arx 38 3 (P).length ((P).flatMap pD)] (.val (.agg #[.int .i64 0, .slice none 0 0, .bool false])) [.mix 76 [.arr 1, .val (.int .u64 ((L : Nat) : Int))], .arx 38 3 ((P.set j ⟨P[j].to, spl (mask <<< bit) P[j].b, true⟩)).length (((P.set j ⟨P[j].to, spl (mask <<< bit) P[j].b, true⟩)).flatMap pD)] := by
  refine dcalls_go (N := 48) 2 (by kernel_rfl) Try.func71 rfl rfl rfl (by simp only [fr0, Nat.zero_add, Nat.reduceAdd]; exact rfl) rfl fun s0 hs0 => ?_
  refine dwp_seq ?_
  refine dwp_holes 2 (by simp only [holes, List.cons_append, List.nil_append]; exact rfl) ?_
  refine dwp_region ?_
  refine walk_w rfl rfl rfl (op_boxa 2 rfl (ev1 rfl) rfl) (by simp only [upd, List.set_cons_zero, List.set_cons_succ]; exact rfl) ?_
  refine walk_w rfl rfl rfl (op_alloc 3 rfl zr38 rfl) (by simp only [upd, List.set_cons_zero, List.set_cons_succ]; exact rfl) ?_
  refine walk_nil ?_
  refine dwp_seq ?_
  refine dwp_holes 1 (by simp only [holes, List.cons_append, List.nil_append]; exact rfl) ?_
  refine dwp_draw [([], []), ([], []), ([], []), ([], []), ([0], []), ([], []), ([2], []), ([1], []), ([1], []), ([4], [4]), ([4], [4])] mixed (by kernel_rfl) ?_
  refine lex_r rfl rfl (op_move (.inl rfl) (ev1 rfl)) ?_
  refine lex_r rfl rfl (op_nc rfl (ev1 rfl) (fun s v h => by cases h; exact ⟨_, rfl⟩)) ?_
  refine lex_r rfl rfl (op_fa rfl fo76_0 (ev1 rfl)) ?_
  refine lex_r rfl rfl (op_fa rfl fo25_0 (ev1 rfl)) ?_
  refine lex_r rfl rfl (op_ldm rfl tb22 (ev1 rfl) rfl rfl) ?_
  refine lex_r rfl rfl (op_fa rfl fo49_1 (ev1 rfl)) ?_
  refine lex_r rfl rfl (op_ldo rfl tb3 (ev1 rfl) rfl rfl) ?_
  refine lex_r rfl rfl (op_ixx (j) rfl sl22 (ev1 rfl) (ev1 rfl) rfl (fun _ => rfl) (fun _ => by omega)) ?_
  refine lex_r rfl rfl (op_ldxr (j := j) rfl tb38 (ev1 rfl) rfl (fun _ => rfl) (by omega)) ?_
  refine lex_w rfl rfl (op_alloc 4 rfl zr38 rfl) rfl (by simp only [upd, List.set_cons_zero, List.set_cons_succ]; exact rfl) ?_
  refine lex_s rfl rfl (op_stam rfl tb38 (ev1 rfl) (ev1 rfl) rfl rfl rfl rfl) rfl (by simp only [upd, List.set_cons_zero, List.set_cons_succ]; exact rfl) ?_
  refine lex_nil ?_
  refine dwp_seq ?_
  refine dwp_region ?_
  refine walk_r rfl rfl rfl (op_fa rfl fo38_2 (ev1 rfl)) ?_
  refine walk_r rfl rfl rfl (op_ldm rfl tb4 (ev1 rfl) rfl rfl) ?_
  refine walk_r rfl rfl rfl (op_not rfl (ev1 rfl)) ?_
  refine walk_r rfl rfl rfl (dop_call [] [] [] rfl (ev1 rfl) (ec (ev1 rfl) (ec (ev1 rfl) en)) rfl rfl (need_ok _ _ (by rw [hsp]; rfl)) rfl rfl rfl rfl rfl rfl) ?_
  refine walk_nil ?_
  refine dwp_seq ?_
  refine dwp_region ?_
  refine walk_r rfl rfl rfl (op_fa rfl fo38_1 (ev1 rfl)) ?_
  refine walk_r rfl rfl rfl (op_ldm rfl tb36 (ev1 rfl) rfl rfl) ?_
  refine walk_r rfl rfl rfl (op_fa rfl fo49_2 (ev1 rfl)) ?_
  refine walk_r rfl rfl rfl (op_ldo rfl tb3 (ev1 rfl) rfl rfl) ?_
  refine walk_r rfl rfl rfl (op_fa rfl fo49_3 (ev1 rfl)) ?_
  refine walk_r rfl rfl rfl (op_ldo rfl tb47 (ev1 rfl) rfl rfl) ?_
  refine walk_r rfl rfl rfl (dop_call [] [] [] rfl (ev1 rfl) (ec (ev1 rfl) (ec (ev1 rfl) (ec (ev1 rfl) en))) rfl rfl (spoil_f P[j].b bit mask hm hb hl hn h0) rfl rfl rfl rfl rfl rfl) ?_
  refine walk_r rfl rfl rfl (op_move (.inl rfl) (ev1 rfl)) ?_
  refine walk_r rfl rfl rfl (op_ext rfl (ev1 rfl) rfl) ?_
  refine walk_r rfl rfl rfl (op_ext rfl (ev1 rfl) rfl) ?_
  refine walk_r rfl rfl rfl (op_move (.inr rfl) (ev1 rfl)) ?_
  refine walk_r rfl rfl rfl (op_move (.inr rfl) (ev1 rfl)) ?_
  refine walk_nil ?_
  refine dwp_seq ?_
  refine dwp_region ?_
  refine walk_r rfl rfl rfl (op_move (.inl rfl) (ev1 rfl)) ?_
  refine walk_r rfl rfl rfl (op_eql rfl (ev1 rfl) (ev1 rfl)) ?_
  refine walk_r rfl rfl rfl (op_move (.inl rfl) (ev1 rfl)) ?_
  refine walk_r rfl rfl rfl (dop_call [] [] [] rfl (ev1 rfl) (ec (ev1 rfl) (ec (ev1 rfl) en)) rfl rfl (need_ok _ _ (rfl)) rfl rfl rfl rfl rfl rfl) ?_
  refine walk_nil ?_
  refine dwp_seq ?_
  refine dwp_draw [([], []), ([], []), ([], []), ([], []), ([0], []), ([], []), ([2], []), ([], []), ([4], []), ([], []), ([], []), ([1], []), ([1], [1])] mixed (by kernel_rfl) ?_
  refine lex_r rfl rfl (op_move (.inl rfl) (ev1 rfl)) ?_
  refine lex_r rfl rfl (op_nc rfl (ev1 rfl) (fun s v h => by cases h; exact ⟨_, rfl⟩)) ?_
  refine lex_r rfl rfl (op_fa rfl fo76_0 (ev1 rfl)) ?_
  refine lex_r rfl rfl (op_fa rfl fo25_0 (ev1 rfl)) ?_
  refine lex_r rfl rfl (op_ldm rfl tb22 (ev1 rfl) rfl rfl) ?_
  refine lex_r rfl rfl (op_fa rfl fo49_1 (ev1 rfl)) ?_
  refine lex_r rfl rfl (op_ldo rfl tb3 (ev1 rfl) rfl rfl) ?_
  refine lex_r rfl rfl (op_fa rfl fo38_0 (ev1 rfl)) ?_
  refine lex_r rfl rfl (op_ldm rfl tb3 (ev1 rfl) rfl rfl) ?_
  refine lex_r rfl rfl (op_move (.inl rfl) (ev1 rfl)) ?_
  refine lex_r rfl rfl (op_bldD (ps := [(0, .tmp 43), (1, .tmp 44), (2, .const (.bool true))]) rfl fl38 zr38 (ec (ev1 rfl) (ec (ev1 rfl) (ec (ev1 rfl) en))) rfl rfl rfl) ?_
  refine lex_r rfl rfl (op_ixx (j) rfl sl22 (ev1 rfl) (ev1 rfl) rfl (fun _ => rfl) (fun _ => by omega)) ?_
  refine lex_s rfl rfl (op_stxr (j := j) (q := ⟨P[j].to, spl (mask <<< bit) P[j].b, true⟩) rfl tb38 (ev1 rfl) (ev1 rfl) rfl (fun _ => rfl) (by omega) rfl) rfl (by simp only [upd, List.set_cons_zero, List.set_cons_succ]; exact rfl) ?_
  refine lex_nil ?_
  refine dwp_seq ?_
  refine dwp_region ?_
  refine walk_r rfl rfl rfl (op_build0 rfl fl38 zr38) ?_
  refine walk_s rfl rfl (op_stwa rfl tb38 (ev1 rfl) (ev1 rfl) rfl rfl rfl rfl) (by simp only [upd, List.set_cons_zero, List.set_cons_succ]; exact rfl) ?_
  refine walk_nil ?_
  refine dwp_ret ?_
  refine kend [0, 1] (rs1 rfl (rv_w tb38 rfl rfl rfl)) rfl rfl ?_ ⟨?_, ?_, trivial⟩
  rfl
  all_goals first | exact rfl | exact arxr_fits rfl rfl (fl_nl _) | exact arxr_fits (by simp) rfl (fl_nl _)

set_option maxRecDepth 4000 in
set_option maxHeartbeats 1000000 in
theorem spl_there (P : List Par) (L : Nat) (kd bt mk : Int) (j : Nat) (h : j < P.length) (hsp : P[j].sp = true) : DPan Try.prog 71 [.loc 0 0, .val (.agg #[.int .i64 kd, .int .i64 (j : Int), .int .i64 bt, .int .u32 mk])] [.mix 76 [.arr 1, .val (.int .u64 ((L : Nat) : Int))], .arx 38 3 (P).length ((P).flatMap pD)] (.ifc 97 (.val (.agg #[.int .i64 5]))) [.mix 76 [.arr 1, .val (.int .u64 ((L : Nat) : Int))], .arx 38 3 (P).length ((P).flatMap pD)] := by
  refine dcalls_go (N := 48) 2 (by kernel_rfl) Try.func71 rfl rfl rfl (by simp only [fr0, Nat.zero_add, Nat.reduceAdd]; exact rfl) rfl fun s0 hs0 => ?_
  refine dwp_seq ?_
  refine dwp_holes 2 (by simp only [holes, List.cons_append, List.nil_append]; exact rfl) ?_
  refine dwp_region ?_
  refine walk_w rfl rfl rfl (op_boxa 2 rfl (ev1 rfl) rfl) (by simp only [upd, List.set_cons_zero, List.set_cons_succ]; exact rfl) ?_
  refine walk_w rfl rfl rfl (op_alloc 3 rfl zr38 rfl) (by simp only [upd, List.set_cons_zero, List.set_cons_succ]; exact rfl) ?_
  refine walk_nil ?_
  refine dwp_seq ?_
  refine dwp_holes 1 (by simp only [holes, List.cons_append, List.nil_append]; exact rfl) ?_
  refine dwp_draw [([], []), ([], []), ([], []), ([], []), ([0], []), ([], []), ([2], []), ([1], []), ([1], []), ([4], [4]), ([4], [4])] mixed (by kernel_rfl) ?_
  refine lex_r rfl rfl (op_move (.inl rfl) (ev1 rfl)) ?_
  refine lex_r rfl rfl (op_nc rfl (ev1 rfl) (fun s v h => by cases h; exact ⟨_, rfl⟩)) ?_
  refine lex_r rfl rfl (op_fa rfl fo76_0 (ev1 rfl)) ?_
  refine lex_r rfl rfl (op_fa rfl fo25_0 (ev1 rfl)) ?_
  refine lex_r rfl rfl (op_ldm rfl tb22 (ev1 rfl) rfl rfl) ?_
  refine lex_r rfl rfl (op_fa rfl fo49_1 (ev1 rfl)) ?_
  refine lex_r rfl rfl (op_ldo rfl tb3 (ev1 rfl) rfl rfl) ?_
  refine lex_r rfl rfl (op_ixx (j) rfl sl22 (ev1 rfl) (ev1 rfl) rfl (fun _ => rfl) (fun _ => by omega)) ?_
  refine lex_r rfl rfl (op_ldxr (j := j) rfl tb38 (ev1 rfl) rfl (fun _ => rfl) (by omega)) ?_
  refine lex_w rfl rfl (op_alloc 4 rfl zr38 rfl) rfl (by simp only [upd, List.set_cons_zero, List.set_cons_succ]; exact rfl) ?_
  refine lex_s rfl rfl (op_stam rfl tb38 (ev1 rfl) (ev1 rfl) rfl rfl rfl rfl) rfl (by simp only [upd, List.set_cons_zero, List.set_cons_succ]; exact rfl) ?_
  refine lex_nil ?_
  refine dwp_seq ?_
  refine dwp_region ?_
  refine walk_r rfl rfl rfl (op_fa rfl fo38_2 (ev1 rfl)) ?_
  refine walk_r rfl rfl rfl (op_ldm rfl tb4 (ev1 rfl) rfl rfl) ?_
  refine walk_r rfl rfl rfl (op_not rfl (ev1 rfl)) ?_
  refine walk_p rfl (dop_callP [] [] [] rfl (ev1 rfl) (ec (ev1 rfl) (ec (ev1 rfl) en)) rfl rfl (need_no _ _ (by rw [hsp]; rfl)) rfl rfl rfl rfl rfl rfl) rfl ?_
  refine kpan [0, 1] rfl rfl ?_ ⟨?_, ?_, trivial⟩
  rfl
  all_goals first | exact rfl | exact arxr_fits rfl rfl (fl_nl _) | exact arxr_fits (by simp) rfl (fl_nl _)

set_option maxRecDepth 4000 in
set_option maxHeartbeats 1000000 in
theorem spl_no (P : List Par) (L : Nat) (kd : Int) (bit mask : Nat) (j : Nat) (h : j < P.length) (hsp : P[j].sp = false) (hm : mask < 2 ^ 32) (hb : bit < 8 * P[j].b.length) (hl : P[j].b.length ≤ 1000000) (hn : ∀ x ∈ P[j].b, x < 256) (h0 : ∀ k, k < P[j].b.length → ((mask <<< bit) >>> (8 * k)) % 256 = 0) : DPan Try.prog 71 [.loc 0 0, .val (.agg #[.int .i64 kd, .int .i64 (j : Int), .int .i64 (bit : Int), .int .u32 (mask : Int)])] [.mix 76 [.arr 1, .val (.int .u64 ((L : Nat) : Int))], .arx 38 3 (P).length ((P).flatMap pD)] (.ifc 97 (.val (.agg #[.int .i64 2]))) [.mix 76 [.arr 1, .val (.int .u64 ((L : Nat) : Int))], .arx 38 3 (P).length ((P).flatMap pD)] := by
  refine dcalls_go (N := 48) 2 (by kernel_rfl) Try.func71 rfl rfl rfl (by simp only [fr0, Nat.zero_add, Nat.reduceAdd]; exact rfl) rfl fun s0 hs0 => ?_
  refine dwp_seq ?_
  refine dwp_holes 2 (by simp only [holes, List.cons_append, List.nil_append]; exact rfl) ?_
  refine dwp_region ?_
  refine walk_w rfl rfl rfl (op_boxa 2 rfl (ev1 rfl) rfl) (by simp only [upd, List.set_cons_zero, List.set_cons_succ]; exact rfl) ?_
  refine walk_w rfl rfl rfl (op_alloc 3 rfl zr38 rfl) (by simp only [upd, List.set_cons_zero, List.set_cons_succ]; exact rfl) ?_
  refine walk_nil ?_
  refine dwp_seq ?_
  refine dwp_holes 1 (by simp only [holes, List.cons_append, List.nil_append]; exact rfl) ?_
  refine dwp_draw [([], []), ([], []), ([], []), ([], []), ([0], []), ([], []), ([2], []), ([1], []), ([1], []), ([4], [4]), ([4], [4])] mixed (by kernel_rfl) ?_
  refine lex_r rfl rfl (op_move (.inl rfl) (ev1 rfl)) ?_
  refine lex_r rfl rfl (op_nc rfl (ev1 rfl) (fun s v h => by cases h; exact ⟨_, rfl⟩)) ?_
  refine lex_r rfl rfl (op_fa rfl fo76_0 (ev1 rfl)) ?_
  refine lex_r rfl rfl (op_fa rfl fo25_0 (ev1 rfl)) ?_
  refine lex_r rfl rfl (op_ldm rfl tb22 (ev1 rfl) rfl rfl) ?_
  refine lex_r rfl rfl (op_fa rfl fo49_1 (ev1 rfl)) ?_
  refine lex_r rfl rfl (op_ldo rfl tb3 (ev1 rfl) rfl rfl) ?_
  refine lex_r rfl rfl (op_ixx (j) rfl sl22 (ev1 rfl) (ev1 rfl) rfl (fun _ => rfl) (fun _ => by omega)) ?_
  refine lex_r rfl rfl (op_ldxr (j := j) rfl tb38 (ev1 rfl) rfl (fun _ => rfl) (by omega)) ?_
  refine lex_w rfl rfl (op_alloc 4 rfl zr38 rfl) rfl (by simp only [upd, List.set_cons_zero, List.set_cons_succ]; exact rfl) ?_
  refine lex_s rfl rfl (op_stam rfl tb38 (ev1 rfl) (ev1 rfl) rfl rfl rfl rfl) rfl (by simp only [upd, List.set_cons_zero, List.set_cons_succ]; exact rfl) ?_
  refine lex_nil ?_
  refine dwp_seq ?_
  refine dwp_region ?_
  refine walk_r rfl rfl rfl (op_fa rfl fo38_2 (ev1 rfl)) ?_
  refine walk_r rfl rfl rfl (op_ldm rfl tb4 (ev1 rfl) rfl rfl) ?_
  refine walk_r rfl rfl rfl (op_not rfl (ev1 rfl)) ?_
  refine walk_r rfl rfl rfl (dop_call [] [] [] rfl (ev1 rfl) (ec (ev1 rfl) (ec (ev1 rfl) en)) rfl rfl (need_ok _ _ (by rw [hsp]; rfl)) rfl rfl rfl rfl rfl rfl) ?_
  refine walk_nil ?_
  refine dwp_seq ?_
  refine dwp_region ?_
  refine walk_r rfl rfl rfl (op_fa rfl fo38_1 (ev1 rfl)) ?_
  refine walk_r rfl rfl rfl (op_ldm rfl tb36 (ev1 rfl) rfl rfl) ?_
  refine walk_r rfl rfl rfl (op_fa rfl fo49_2 (ev1 rfl)) ?_
  refine walk_r rfl rfl rfl (op_ldo rfl tb3 (ev1 rfl) rfl rfl) ?_
  refine walk_r rfl rfl rfl (op_fa rfl fo49_3 (ev1 rfl)) ?_
  refine walk_r rfl rfl rfl (op_ldo rfl tb47 (ev1 rfl) rfl rfl) ?_
  refine walk_r rfl rfl rfl (dop_call [] [] [] rfl (ev1 rfl) (ec (ev1 rfl) (ec (ev1 rfl) (ec (ev1 rfl) en))) rfl rfl (spoil_no P[j].b bit mask hm hb hl hn h0) rfl rfl rfl rfl rfl rfl) ?_
  refine walk_r rfl rfl rfl (op_move (.inl rfl) (ev1 rfl)) ?_
  refine walk_r rfl rfl rfl (op_ext rfl (ev1 rfl) rfl) ?_
  refine walk_r rfl rfl rfl (op_ext rfl (ev1 rfl) rfl) ?_
  refine walk_r rfl rfl rfl (op_move (.inr rfl) (ev1 rfl)) ?_
  refine walk_r rfl rfl rfl (op_move (.inr rfl) (ev1 rfl)) ?_
  refine walk_nil ?_
  refine dwp_seq ?_
  refine dwp_region ?_
  refine walk_r rfl rfl rfl (op_move (.inl rfl) (ev1 rfl)) ?_
  refine walk_r rfl rfl rfl (op_eql rfl (ev1 rfl) (ev1 rfl)) ?_
  refine walk_r rfl rfl rfl (op_move (.inl rfl) (ev1 rfl)) ?_
  refine walk_p rfl (dop_callP [] [] [] rfl (ev1 rfl) (ec (ev1 rfl) (ec (ev1 rfl) en)) rfl rfl (need_no _ _ (rfl)) rfl rfl rfl rfl rfl rfl) rfl ?_
  refine kpan [0, 1] rfl rfl ?_ ⟨?_, ?_, trivial⟩
  rfl
  all_goals first | exact rfl | exact arxr_fits rfl rfl (fl_nl _) | exact arxr_fits (by simp) rfl (fl_nl _)

set_option maxRecDepth 4000 in
set_option maxHeartbeats 1000000 in
theorem spl_out (P : List Par) (L : Nat) (kd bt : Int) (mask : Nat) (j : Nat) (h : j < P.length) (hsp : P[j].sp = false) (hbm : bt ≤ 9223372036854775807) (hout : bt < 0 ∨ 8 * (P[j].b.length : Int) ≤ bt) : DPan Try.prog 71 [.loc 0 0, .val (.agg #[.int .i64 kd, .int .i64 (j : Int), .int .i64 bt, .int .u32 (mask : Int)])] [.mix 76 [.arr 1, .val (.int .u64 ((L : Nat) : Int))], .arx 38 3 (P).length ((P).flatMap pD)] (.ifc 97 (.val (.agg #[.int .i64 2]))) [.mix 76 [.arr 1, .val (.int .u64 ((L : Nat) : Int))], .arx 38 3 (P).length ((P).flatMap pD)] := by
  refine dcalls_go (N := 48) 2 (by kernel_rfl) Try.func71 rfl rfl rfl (by simp only [fr0, Nat.zero_add, Nat.reduceAdd]; exact rfl) rfl fun s0 hs0 => ?_
  refine dwp_seq ?_
  refine dwp_holes 2 (by simp only [holes, List.cons_append, List.nil_append]; exact rfl) ?_
  refine dwp_region ?_
  refine walk_w rfl rfl rfl (op_boxa 2 rfl (ev1 rfl) rfl) (by simp only [upd, List.set_cons_zero, List.set_cons_succ]; exact rfl) ?_
  refine walk_w rfl rfl rfl (op_alloc 3 rfl zr38 rfl) (by simp only [upd, List.set_cons_zero, List.set_cons_succ]; exact rfl) ?_
  refine walk_nil ?_
  refine dwp_seq ?_
  refine dwp_holes 1 (by simp only [holes, List.cons_append, List.nil_append]; exact rfl) ?_
  refine dwp_draw [([], []), ([], []), ([], []), ([], []), ([0], []), ([], []), ([2], []), ([1], []), ([1], []), ([4], [4]), ([4], [4])] mixed (by kernel_rfl) ?_
  refine lex_r rfl rfl (op_move (.inl rfl) (ev1 rfl)) ?_
  refine lex_r rfl rfl (op_nc rfl (ev1 rfl) (fun s v h => by cases h; exact ⟨_, rfl⟩)) ?_
  refine lex_r rfl rfl (op_fa rfl fo76_0 (ev1 rfl)) ?_
  refine lex_r rfl rfl (op_fa rfl fo25_0 (ev1 rfl)) ?_
  refine lex_r rfl rfl (op_ldm rfl tb22 (ev1 rfl) rfl rfl) ?_
  refine lex_r rfl rfl (op_fa rfl fo49_1 (ev1 rfl)) ?_
  refine lex_r rfl rfl (op_ldo rfl tb3 (ev1 rfl) rfl rfl) ?_
  refine lex_r rfl rfl (op_ixx (j) rfl sl22 (ev1 rfl) (ev1 rfl) rfl (fun _ => rfl) (fun _ => by omega)) ?_
  refine lex_r rfl rfl (op_ldxr (j := j) rfl tb38 (ev1 rfl) rfl (fun _ => rfl) (by omega)) ?_
  refine lex_w rfl rfl (op_alloc 4 rfl zr38 rfl) rfl (by simp only [upd, List.set_cons_zero, List.set_cons_succ]; exact rfl) ?_
  refine lex_s rfl rfl (op_stam rfl tb38 (ev1 rfl) (ev1 rfl) rfl rfl rfl rfl) rfl (by simp only [upd, List.set_cons_zero, List.set_cons_succ]; exact rfl) ?_
  refine lex_nil ?_
  refine dwp_seq ?_
  refine dwp_region ?_
  refine walk_r rfl rfl rfl (op_fa rfl fo38_2 (ev1 rfl)) ?_
  refine walk_r rfl rfl rfl (op_ldm rfl tb4 (ev1 rfl) rfl rfl) ?_
  refine walk_r rfl rfl rfl (op_not rfl (ev1 rfl)) ?_
  refine walk_r rfl rfl rfl (dop_call [] [] [] rfl (ev1 rfl) (ec (ev1 rfl) (ec (ev1 rfl) en)) rfl rfl (need_ok _ _ (by rw [hsp]; rfl)) rfl rfl rfl rfl rfl rfl) ?_
  refine walk_nil ?_
  refine dwp_seq ?_
  refine dwp_region ?_
  refine walk_r rfl rfl rfl (op_fa rfl fo38_1 (ev1 rfl)) ?_
  refine walk_r rfl rfl rfl (op_ldm rfl tb36 (ev1 rfl) rfl rfl) ?_
  refine walk_r rfl rfl rfl (op_fa rfl fo49_2 (ev1 rfl)) ?_
  refine walk_r rfl rfl rfl (op_ldo rfl tb3 (ev1 rfl) rfl rfl) ?_
  refine walk_r rfl rfl rfl (op_fa rfl fo49_3 (ev1 rfl)) ?_
  refine walk_r rfl rfl rfl (op_ldo rfl tb47 (ev1 rfl) rfl rfl) ?_
  refine walk_r rfl rfl rfl (dop_call [] [] [] rfl (ev1 rfl) (ec (ev1 rfl) (ec (ev1 rfl) (ec (ev1 rfl) en))) rfl rfl (spoil_out P[j].b bt mask hbm hout) rfl rfl rfl rfl rfl rfl) ?_
  refine walk_r rfl rfl rfl (op_move (.inl rfl) (ev1 rfl)) ?_
  refine walk_r rfl rfl rfl (op_ext rfl (ev1 rfl) rfl) ?_
  refine walk_r rfl rfl rfl (op_ext rfl (ev1 rfl) rfl) ?_
  refine walk_r rfl rfl rfl (op_move (.inr rfl) (ev1 rfl)) ?_
  refine walk_r rfl rfl rfl (op_move (.inr rfl) (ev1 rfl)) ?_
  refine walk_nil ?_
  refine dwp_seq ?_
  refine dwp_region ?_
  refine walk_r rfl rfl rfl (op_move (.inl rfl) (ev1 rfl)) ?_
  refine walk_r rfl rfl rfl (op_eql rfl (ev1 rfl) (ev1 rfl)) ?_
  refine walk_r rfl rfl rfl (op_move (.inl rfl) (ev1 rfl)) ?_
  refine walk_p rfl (dop_callP [] [] [] rfl (ev1 rfl) (ec (ev1 rfl) (ec (ev1 rfl) en)) rfl rfl (need_no _ _ (rfl)) rfl rfl rfl rfl rfl rfl) rfl ?_
  refine kpan [0, 1] rfl rfl ?_ ⟨?_, ?_, trivial⟩
  rfl
  all_goals first | exact rfl | exact arxr_fits rfl rfl (fl_nl _) | exact arxr_fits (by simp) rfl (fl_nl _)

set_option maxRecDepth 4000 in
set_option maxHeartbeats 1000000 in
theorem tricks_d : DFun Try.prog 62 [] [] (.agg [.val .nilFunc, .fn (.func 68) [] [], .fn (.func 69) [] [], .fn (.func 70) [] [], .fn (.func 71) [] []]) [] := by
  refine dcalls_go (N := 2) 0 (by kernel_rfl) Try.func62 rfl rfl rfl (by simp only [fr0, Nat.zero_add, Nat.reduceAdd]; exact rfl) rfl fun s0 hs0 => ?_
  refine dwp_seq ?_
  refine dwp_holes 1 (by simp only [holes, List.cons_append, List.nil_append]; exact rfl) ?_
  refine dwp_region ?_
  refine walk_w rfl rfl rfl (op_alloc 0 rfl zr101 rfl) (by simp only [upd, List.set_cons_zero, List.set_cons_succ]; exact rfl) ?_
  refine walk_nil ?_
  refine dwp_seq ?_
  refine dwp_region ?_
  refine walk_r rfl rfl rfl (op_bldaD (ps := [(1, .func 68), (2, .func 69), (3, .func 70), (4, .func 71)]) rfl ar101 zr101 (ec (ev1 rfl) (ec (ev1 rfl) (ec (ev1 rfl) (ec (ev1 rfl) en)))) rfl rfl rfl rfl) ?_
  refine walk_s rfl rfl (op_stam rfl tb101 (ev1 rfl) (ev1 rfl) rfl rfl rfl rfl) (by simp only [upd, List.set_cons_zero, List.set_cons_succ]; exact rfl) ?_
  refine walk_nil ?_
  refine dwp_ret ?_
  refine kend0 (rs1 rfl (rv_mw tb101 rfl rfl rfl)) rfl ?_
  rfl

set_option maxRecDepth 4000 in
set_option maxHeartbeats 1000000 in
theorem do_take (P : List Par) (L : Nat) (bt mk : Int) (j : Nat) (h : j < P.length) (hP : P.length ≤ 64) : DFun Try.prog 48 [.loc 0 0, .val (.agg #[.int .i64 1, .int .i64 (j : Int), .int .i64 bt, .int .u32 mk])] [.mix 76 [.arr 1, .val (.int .u64 ((L : Nat) : Int))], .arx 38 3 (P).length ((P).flatMap pD)] (.agg (pD P[j])) [.mix 76 [.arr 2, .val (.int .u64 ((L : Nat) : Int))], .gone, .arx 38 3 ((P.eraseIdx j)).length (((P.eraseIdx j)).flatMap pD)] := by
  refine dcalls_go (N := 36) 2 (by kernel_rfl) Try.func48 rfl rfl rfl (by simp only [fr0, Nat.zero_add, Nat.reduceAdd]; exact rfl) rfl fun s0 hs0 => ?_
  refine dwp_seq ?_
  refine dwp_holes 2 (by simp only [holes, List.cons_append, List.nil_append]; exact rfl) ?_
  refine dwp_region ?_
  refine walk_w rfl rfl rfl (op_boxa 2 rfl (ev1 rfl) rfl) (by simp only [upd, List.set_cons_zero, List.set_cons_succ]; exact rfl) ?_
  refine walk_w rfl rfl rfl (op_alloc 3 rfl zr38 rfl) (by simp only [upd, List.set_cons_zero, List.set_cons_succ]; exact rfl) ?_
  refine walk_nil ?_
  refine dwp_seq ?_
  refine dwp_region ?_
  refine walk_r rfl rfl rfl (op_fa rfl fo49_0 (ev1 rfl)) ?_
  refine walk_r rfl rfl rfl (op_ldo rfl tb3 (ev1 rfl) rfl rfl) ?_
  refine walk_r rfl rfl rfl (op_geq rfl (ev1 rfl) (ev1 rfl)) ?_
  refine walk_r rfl rfl rfl (op_move (.inl rfl) (ev1 rfl)) ?_
  refine walk_gr (gd_t rfl rfl rfl) rfl rfl rfl (op_fa rfl fo49_0 (ev1 rfl)) ?_
  refine walk_gr (gd_t rfl rfl rfl) rfl rfl rfl (op_ldo rfl tb3 (ev2 rfl) rfl rfl) ?_
  refine walk_gr (gd_t rfl rfl rfl) rfl rfl rfl (op_leq rfl (ev2 rfl) (ev1 rfl)) ?_
  refine walk_r rfl rfl rfl (op_and rfl (ev1 rfl) (ev3 rfl id)) ?_
  refine walk_r rfl rfl rfl (dop_call [] [] [] rfl (ev1 rfl) (ec (ev1 rfl) (ec (ev1 rfl) en)) rfl rfl (need_ok _ _ (rfl)) rfl rfl rfl rfl rfl rfl) ?_
  refine walk_nil ?_
  refine dwp_seq ?_
  refine dwp_draw [([], []), ([2], []), ([], []), ([], []), ([], []), ([2], []), ([], []), ([], []), ([], []), ([], []), ([0], []), ([1], []), ([], []), ([], []), ([], [])] mixed (by kernel_rfl) ?_
  refine lex_r rfl rfl (op_fa rfl fo49_1 (ev1 rfl)) ?_
  refine lex_r rfl rfl (op_ldo rfl tb3 (ev1 rfl) rfl rfl) ?_
  refine lex_r rfl rfl (op_geq rfl (ev1 rfl) (ev1 rfl)) ?_
  refine lex_r rfl rfl (op_move (.inl rfl) (ev1 rfl)) ?_
  refine lex_gr (gd_t rfl rfl rfl) rfl rfl (op_fa rfl fo49_1 (ev1 rfl)) ?_
  refine lex_gr (gd_t rfl rfl rfl) rfl rfl (op_ldo rfl tb3 (ev2 rfl) rfl rfl) ?_
  refine lex_gr (gd_t rfl rfl rfl) rfl rfl (op_move (.inl rfl) (ev1 rfl)) ?_
  refine lex_gr (gd_t rfl rfl rfl) rfl rfl (op_nc rfl (ev2 rfl) (fun s v h => by cases h; exact ⟨_, rfl⟩)) ?_
  refine lex_gr (gd_t rfl rfl rfl) rfl rfl (op_fa rfl fo76_0 (ev2 rfl)) ?_
  refine lex_gr (gd_t rfl rfl rfl) rfl rfl (op_fa rfl fo25_0 (ev2 rfl)) ?_
  refine lex_gr (gd_t rfl rfl rfl) rfl rfl (op_ldm rfl tb22 (ev2 rfl) rfl rfl) ?_
  refine lex_gr (gd_t rfl rfl rfl) rfl rfl (op_lenx rfl sl22 (ev2 rfl) rfl) ?_
  refine lex_gr (gd_t rfl rfl rfl) rfl rfl (op_lss rfl (ev2 rfl) (ev2 rfl)) ?_
  refine lex_r rfl rfl (op_and rfl (ev1 rfl) (ev3 rfl id)) ?_
  refine lex_r rfl rfl (dop_call [] [] [] rfl (ev1 rfl) (ec (ev1 rfl) (ec (ev1 rfl) en)) rfl rfl (need_ok _ _ (by simp; omega)) rfl rfl rfl rfl rfl rfl) ?_
  refine lex_nil ?_
  refine dwp_seq ?_
  refine dwp_holes 1 (by simp only [holes, List.cons_append, List.nil_append]; exact rfl) ?_
  refine dwp_draw [([], []), ([], []), ([2], []), ([], []), ([], []), ([2], []), ([0, 1, 4], [0, 1, 4]), ([3], [3])] mixed (by kernel_rfl) ?_
  refine lex_r rfl rfl (dop_call [] [] [] rfl (ev1 rfl) en rfl rfl (tricks_d) rfl rfl rfl rfl rfl rfl) ?_
  refine lex_r rfl rfl (op_fa rfl fo49_0 (ev1 rfl)) ?_
  refine lex_r rfl rfl (op_ldo rfl tb3 (ev1 rfl) rfl rfl) ?_
  refine lex_r rfl rfl (op_ixw 1 rfl aw101 (ev1 rfl) (ev1 rfl) (fun _ => rfl) (by decide) rfl) ?_
  refine lex_r rfl rfl (op_move (.inl rfl) (ev1 rfl)) ?_
  refine lex_r rfl rfl (op_ldw rfl tb49 (ev1 rfl) rfl rfl) ?_
  refine lex_w rfl rfl (dop_call [0, 1] [] [4] rfl (ev1 rfl) (ec (ev1 rfl) (ec (ev1 rfl) en)) rfl (by exact mfits _ _ ⟨rfl, (by first | exact rfl | exact arx_fits rfl rfl (vwL_flat (fun _ => rfl) _) | exact arxr_fits rfl rfl (nlL_flatR (fun _ => rfl) _) | exact arxg_fits rfl rfl (fun _ => rfl) | exact arxs_fits rfl rfl (fun _ => rfl)), trivial⟩) (take_o P L _ _ _ j h hP) rfl rfl rfl (by exact (wrc rfl (wrc rfl (wrc (by first | exact rfl | exact sb_arx (fun _ => rfl) | exact sb_arxr (nlL_flatR (fun _ => rfl) _) | exact sb_arxg (fun _ => rfl) | exact sb_arxs (fun _ => rfl)) rfl)))) rfl rfl) rfl (by simp only [upd, List.set_cons_zero, List.set_cons_succ]; exact rfl) ?_
  refine lex_s rfl rfl (op_stam rfl tb38 (ev1 rfl) (ev1 rfl) rfl rfl rfl rfl) rfl (by simp only [upd, List.set_cons_zero, List.set_cons_succ]; exact rfl) ?_
  refine lex_nil ?_
  refine dwp_ret ?_
  refine kend [0, 1, 4] (rs1 rfl (rv_mw tb38 rfl rfl rfl)) rfl rfl ?_ ⟨?_, ?_, ?_, trivial⟩
  rfl
  all_goals first | exact rfl | exact arxr_fits rfl rfl (fl_nl _) | exact arxr_fits (by simp) rfl (fl_nl _)

set_option maxRecDepth 4000 in
set_option maxHeartbeats 1000000 in
theorem do_drop (P : List Par) (L : Nat) (bt mk : Int) (j : Nat) (h : j < P.length) (hP : P.length ≤ 64) : DFun Try.prog 48 [.loc 0 0, .val (.agg #[.int .i64 2, .int .i64 (j : Int), .int .i64 bt, .int .u32 mk])] [.mix 76 [.arr 1, .val (.int .u64 ((L : Nat) : Int))], .arx 38 3 (P).length ((P).flatMap pD)] (.val (.agg #[.int .i64 0, .slice none 0 0, .bool false])) [.mix 76 [.arr 2, .val (.int .u64 ((L : Nat) : Int))], .gone, .arx 38 3 ((P.eraseIdx j)).length (((P.eraseIdx j)).flatMap pD)] := by
  refine dcalls_go (N := 36) 2 (by kernel_rfl) Try.func48 rfl rfl rfl (by simp only [fr0, Nat.zero_add, Nat.reduceAdd]; exact rfl) rfl fun s0 hs0 => ?_
  refine dwp_seq ?_
  refine dwp_holes 2 (by simp only [holes, List.cons_append, List.nil_append]; exact rfl) ?_
  refine dwp_region ?_
  refine walk_w rfl rfl rfl (op_boxa 2 rfl (ev1 rfl) rfl) (by simp only [upd, List.set_cons_zero, List.set_cons_succ]; exact rfl) ?_
  refine walk_w rfl rfl rfl (op_alloc 3 rfl zr38 rfl) (by simp only [upd, List.set_cons_zero, List.set_cons_succ]; exact rfl) ?_
  refine walk_nil ?_
  refine dwp_seq ?_
  refine dwp_region ?_
  refine walk_r rfl rfl rfl (op_fa rfl fo49_0 (ev1 rfl)) ?_
  refine walk_r rfl rfl rfl (op_ldo rfl tb3 (ev1 rfl) rfl rfl) ?_
  refine walk_r rfl rfl rfl (op_geq rfl (ev1 rfl) (ev1 rfl)) ?_
  refine walk_r rfl rfl rfl (op_move (.inl rfl) (ev1 rfl)) ?_
  refine walk_gr (gd_t rfl rfl rfl) rfl rfl rfl (op_fa rfl fo49_0 (ev1 rfl)) ?_
  refine walk_gr (gd_t rfl rfl rfl) rfl rfl rfl (op_ldo rfl tb3 (ev2 rfl) rfl rfl) ?_
  refine walk_gr (gd_t rfl rfl rfl) rfl rfl rfl (op_leq rfl (ev2 rfl) (ev1 rfl)) ?_
  refine walk_r rfl rfl rfl (op_and rfl (ev1 rfl) (ev3 rfl id)) ?_
  refine walk_r rfl rfl rfl (dop_call [] [] [] rfl (ev1 rfl) (ec (ev1 rfl) (ec (ev1 rfl) en)) rfl rfl (need_ok _ _ (rfl)) rfl rfl rfl rfl rfl rfl) ?_
  refine walk_nil ?_
  refine dwp_seq ?_
  refine dwp_draw [([], []), ([2], []), ([], []), ([], []), ([], []), ([2], []), ([], []), ([], []), ([], []), ([], []), ([0], []), ([1], []), ([], []), ([], []), ([], [])] mixed (by kernel_rfl) ?_
  refine lex_r rfl rfl (op_fa rfl fo49_1 (ev1 rfl)) ?_
  refine lex_r rfl rfl (op_ldo rfl tb3 (ev1 rfl) rfl rfl) ?_
  refine lex_r rfl rfl (op_geq rfl (ev1 rfl) (ev1 rfl)) ?_
  refine lex_r rfl rfl (op_move (.inl rfl) (ev1 rfl)) ?_
  refine lex_gr (gd_t rfl rfl rfl) rfl rfl (op_fa rfl fo49_1 (ev1 rfl)) ?_
  refine lex_gr (gd_t rfl rfl rfl) rfl rfl (op_ldo rfl tb3 (ev2 rfl) rfl rfl) ?_
  refine lex_gr (gd_t rfl rfl rfl) rfl rfl (op_move (.inl rfl) (ev1 rfl)) ?_
  refine lex_gr (gd_t rfl rfl rfl) rfl rfl (op_nc rfl (ev2 rfl) (fun s v h => by cases h; exact ⟨_, rfl⟩)) ?_
  refine lex_gr (gd_t rfl rfl rfl) rfl rfl (op_fa rfl fo76_0 (ev2 rfl)) ?_
  refine lex_gr (gd_t rfl rfl rfl) rfl rfl (op_fa rfl fo25_0 (ev2 rfl)) ?_
  refine lex_gr (gd_t rfl rfl rfl) rfl rfl (op_ldm rfl tb22 (ev2 rfl) rfl rfl) ?_
  refine lex_gr (gd_t rfl rfl rfl) rfl rfl (op_lenx rfl sl22 (ev2 rfl) rfl) ?_
  refine lex_gr (gd_t rfl rfl rfl) rfl rfl (op_lss rfl (ev2 rfl) (ev2 rfl)) ?_
  refine lex_r rfl rfl (op_and rfl (ev1 rfl) (ev3 rfl id)) ?_
  refine lex_r rfl rfl (dop_call [] [] [] rfl (ev1 rfl) (ec (ev1 rfl) (ec (ev1 rfl) en)) rfl rfl (need_ok _ _ (by simp; omega)) rfl rfl rfl rfl rfl rfl) ?_
  refine lex_nil ?_
  refine dwp_seq ?_
  refine dwp_holes 1 (by simp only [holes, List.cons_append, List.nil_append]; exact rfl) ?_
  refine dwp_draw [([], []), ([], []), ([2], []), ([], []), ([], []), ([2], []), ([0, 1, 4], [0, 1, 4]), ([3], [3])] mixed (by kernel_rfl) ?_
  refine lex_r rfl rfl (dop_call [] [] [] rfl (ev1 rfl) en rfl rfl (tricks_d) rfl rfl rfl rfl rfl rfl) ?_
  refine lex_r rfl rfl (op_fa rfl fo49_0 (ev1 rfl)) ?_
  refine lex_r rfl rfl (op_ldo rfl tb3 (ev1 rfl) rfl rfl) ?_
  refine lex_r rfl rfl (op_ixw 2 rfl aw101 (ev1 rfl) (ev1 rfl) (fun _ => rfl) (by decide) rfl) ?_
  refine lex_r rfl rfl (op_move (.inl rfl) (ev1 rfl)) ?_
  refine lex_r rfl rfl (op_ldw rfl tb49 (ev1 rfl) rfl rfl) ?_
  refine lex_w rfl rfl (dop_call [0, 1] [] [4] rfl (ev1 rfl) (ec (ev1 rfl) (ec (ev1 rfl) en)) rfl (by exact mfits _ _ ⟨rfl, (by first | exact rfl | exact arx_fits rfl rfl (vwL_flat (fun _ => rfl) _) | exact arxr_fits rfl rfl (nlL_flatR (fun _ => rfl) _) | exact arxg_fits rfl rfl (fun _ => rfl) | exact arxs_fits rfl rfl (fun _ => rfl)), trivial⟩) (drop_o P L _ _ _ j h hP) rfl rfl rfl (by exact (wrc rfl (wrc rfl (wrc (by first | exact rfl | exact sb_arx (fun _ => rfl) | exact sb_arxr (nlL_flatR (fun _ => rfl) _) | exact sb_arxg (fun _ => rfl) | exact sb_arxs (fun _ => rfl)) rfl)))) rfl rfl) rfl (by simp only [upd, List.set_cons_zero, List.set_cons_succ]; exact rfl) ?_
  refine lex_s rfl rfl (op_stwa rfl tb38 (ev1 rfl) (ev1 rfl) rfl rfl rfl rfl) rfl (by simp only [upd, List.set_cons_zero, List.set_cons_succ]; exact rfl) ?_
  refine lex_nil ?_
  refine dwp_ret ?_
  refine kend [0, 1, 4] (rs1 rfl (rv_w tb38 rfl rfl rfl)) rfl rfl ?_ ⟨?_, ?_, ?_, trivial⟩
  rfl
  all_goals first | exact rfl | exact arxr_fits rfl rfl (fl_nl _) | exact arxr_fits (by simp) rfl (fl_nl _)

set_option maxRecDepth 4000 in
set_option maxHeartbeats 1000000 in
theorem do_twice (P : List Par) (L : Nat) (bt mk : Int) (j : Nat) (h : j < P.length) (hP : P.length < 64) (hl : ∀ p ∈ P, p.b.length ≤ 2000000) : DFun Try.prog 48 [.loc 0 0, .val (.agg #[.int .i64 3, .int .i64 (j : Int), .int .i64 bt, .int .u32 mk])] [.mix 76 [.arr 1, .val (.int .u64 ((L : Nat) : Int))], .arx 38 3 (P).length ((P).flatMap pD)] (.val (.agg #[.int .i64 0, .slice none 0 0, .bool false])) [.mix 76 [.arr 2, .val (.int .u64 ((L : Nat) : Int))], .gone, .arx 38 3 ((P ++ [P[j]])).length (((P ++ [P[j]])).flatMap pD)] := by
  refine dcalls_go (N := 36) 2 (by kernel_rfl) Try.func48 rfl rfl rfl (by simp only [fr0, Nat.zero_add, Nat.reduceAdd]; exact rfl) rfl fun s0 hs0 => ?_
  refine dwp_seq ?_
  refine dwp_holes 2 (by simp only [holes, List.cons_append, List.nil_append]; exact rfl) ?_
  refine dwp_region ?_
  refine walk_w rfl rfl rfl (op_boxa 2 rfl (ev1 rfl) rfl) (by simp only [upd, List.set_cons_zero, List.set_cons_succ]; exact rfl) ?_
  refine walk_w rfl rfl rfl (op_alloc 3 rfl zr38 rfl) (by simp only [upd, List.set_cons_zero, List.set_cons_succ]; exact rfl) ?_
  refine walk_nil ?_
  refine dwp_seq ?_
  refine dwp_region ?_
  refine walk_r rfl rfl rfl (op_fa rfl fo49_0 (ev1 rfl)) ?_
  refine walk_r rfl rfl rfl (op_ldo rfl tb3 (ev1 rfl) rfl rfl) ?_
  refine walk_r rfl rfl rfl (op_geq rfl (ev1 rfl) (ev1 rfl)) ?_
  refine walk_r rfl rfl rfl (op_move (.inl rfl) (ev1 rfl)) ?_
  refine walk_gr (gd_t rfl rfl rfl) rfl rfl rfl (op_fa rfl fo49_0 (ev1 rfl)) ?_
  refine walk_gr (gd_t rfl rfl rfl) rfl rfl rfl (op_ldo rfl tb3 (ev2 rfl) rfl rfl) ?_
  refine walk_gr (gd_t rfl rfl rfl) rfl rfl rfl (op_leq rfl (ev2 rfl) (ev1 rfl)) ?_
  refine walk_r rfl rfl rfl (op_and rfl (ev1 rfl) (ev3 rfl id)) ?_
  refine walk_r rfl rfl rfl (dop_call [] [] [] rfl (ev1 rfl) (ec (ev1 rfl) (ec (ev1 rfl) en)) rfl rfl (need_ok _ _ (rfl)) rfl rfl rfl rfl rfl rfl) ?_
  refine walk_nil ?_
  refine dwp_seq ?_
  refine dwp_draw [([], []), ([2], []), ([], []), ([], []), ([], []), ([2], []), ([], []), ([], []), ([], []), ([], []), ([0], []), ([1], []), ([], []), ([], []), ([], [])] mixed (by kernel_rfl) ?_
  refine lex_r rfl rfl (op_fa rfl fo49_1 (ev1 rfl)) ?_
  refine lex_r rfl rfl (op_ldo rfl tb3 (ev1 rfl) rfl rfl) ?_
  refine lex_r rfl rfl (op_geq rfl (ev1 rfl) (ev1 rfl)) ?_
  refine lex_r rfl rfl (op_move (.inl rfl) (ev1 rfl)) ?_
  refine lex_gr (gd_t rfl rfl rfl) rfl rfl (op_fa rfl fo49_1 (ev1 rfl)) ?_
  refine lex_gr (gd_t rfl rfl rfl) rfl rfl (op_ldo rfl tb3 (ev2 rfl) rfl rfl) ?_
  refine lex_gr (gd_t rfl rfl rfl) rfl rfl (op_move (.inl rfl) (ev1 rfl)) ?_
  refine lex_gr (gd_t rfl rfl rfl) rfl rfl (op_nc rfl (ev2 rfl) (fun s v h => by cases h; exact ⟨_, rfl⟩)) ?_
  refine lex_gr (gd_t rfl rfl rfl) rfl rfl (op_fa rfl fo76_0 (ev2 rfl)) ?_
  refine lex_gr (gd_t rfl rfl rfl) rfl rfl (op_fa rfl fo25_0 (ev2 rfl)) ?_
  refine lex_gr (gd_t rfl rfl rfl) rfl rfl (op_ldm rfl tb22 (ev2 rfl) rfl rfl) ?_
  refine lex_gr (gd_t rfl rfl rfl) rfl rfl (op_lenx rfl sl22 (ev2 rfl) rfl) ?_
  refine lex_gr (gd_t rfl rfl rfl) rfl rfl (op_lss rfl (ev2 rfl) (ev2 rfl)) ?_
  refine lex_r rfl rfl (op_and rfl (ev1 rfl) (ev3 rfl id)) ?_
  refine lex_r rfl rfl (dop_call [] [] [] rfl (ev1 rfl) (ec (ev1 rfl) (ec (ev1 rfl) en)) rfl rfl (need_ok _ _ (by simp; omega)) rfl rfl rfl rfl rfl rfl) ?_
  refine lex_nil ?_
  refine dwp_seq ?_
  refine dwp_holes 1 (by simp only [holes, List.cons_append, List.nil_append]; exact rfl) ?_
  refine dwp_draw [([], []), ([], []), ([2], []), ([], []), ([], []), ([2], []), ([0, 1, 4], [0, 1, 4]), ([3], [3])] mixed (by kernel_rfl) ?_
  refine lex_r rfl rfl (dop_call [] [] [] rfl (ev1 rfl) en rfl rfl (tricks_d) rfl rfl rfl rfl rfl rfl) ?_
  refine lex_r rfl rfl (op_fa rfl fo49_0 (ev1 rfl)) ?_
  refine lex_r rfl rfl (op_ldo rfl tb3 (ev1 rfl) rfl rfl) ?_
  refine lex_r rfl rfl (op_ixw 3 rfl aw101 (ev1 rfl) (ev1 rfl) (fun _ => rfl) (by decide) rfl) ?_
  refine lex_r rfl rfl (op_move (.inl rfl) (ev1 rfl)) ?_
  refine lex_r rfl rfl (op_ldw rfl tb49 (ev1 rfl) rfl rfl) ?_
  refine lex_w rfl rfl (dop_call [0, 1] [] [4] rfl (ev1 rfl) (ec (ev1 rfl) (ec (ev1 rfl) en)) rfl (by exact mfits _ _ ⟨rfl, (by first | exact rfl | exact arx_fits rfl rfl (vwL_flat (fun _ => rfl) _) | exact arxr_fits rfl rfl (nlL_flatR (fun _ => rfl) _) | exact arxg_fits rfl rfl (fun _ => rfl) | exact arxs_fits rfl rfl (fun _ => rfl)), trivial⟩) (twice_o P L _ _ _ j h hP hl) rfl rfl rfl (by exact (wrc rfl (wrc rfl (wrc (by first | exact rfl | exact sb_arx (fun _ => rfl) | exact sb_arxr (nlL_flatR (fun _ => rfl) _) | exact sb_arxg (fun _ => rfl) | exact sb_arxs (fun _ => rfl)) rfl)))) rfl rfl) rfl (by simp only [upd, List.set_cons_zero, List.set_cons_succ]; exact rfl) ?_
  refine lex_s rfl rfl (op_stwa rfl tb38 (ev1 rfl) (ev1 rfl) rfl rfl rfl rfl) rfl (by simp only [upd, List.set_cons_zero, List.set_cons_succ]; exact rfl) ?_
  refine lex_nil ?_
  refine dwp_ret ?_
  refine kend [0, 1, 4] (rs1 rfl (rv_w tb38 rfl rfl rfl)) rfl rfl ?_ ⟨?_, ?_, ?_, trivial⟩
  rfl
  all_goals first | exact rfl | exact arxr_fits rfl rfl (fl_nl _) | exact arxr_fits (by simp) rfl (fl_nl _)

set_option maxRecDepth 4000 in
set_option maxHeartbeats 1000000 in
theorem do_full (P : List Par) (L : Nat) (bt mk : Int) (j : Nat) (h : j < P.length) (hP : 64 ≤ P.length) (hL : L < 4611686018427387904) : DFun Try.prog 48 [.loc 0 0, .val (.agg #[.int .i64 3, .int .i64 (j : Int), .int .i64 bt, .int .u32 mk])] [.mix 76 [.arr 1, .val (.int .u64 ((L : Nat) : Int))], .arx 38 3 (P).length ((P).flatMap pD)] (.val (.agg #[.int .i64 0, .slice none 0 0, .bool false])) [.mix 76 [.arr 1, .val (.int .u64 ((L + 1 : Nat) : Int))], .arx 38 3 (P).length ((P).flatMap pD)] := by
  refine dcalls_go (N := 36) 2 (by kernel_rfl) Try.func48 rfl rfl rfl (by simp only [fr0, Nat.zero_add, Nat.reduceAdd]; exact rfl) rfl fun s0 hs0 => ?_
  refine dwp_seq ?_
  refine dwp_holes 2 (by simp only [holes, List.cons_append, List.nil_append]; exact rfl) ?_
  refine dwp_region ?_
  refine walk_w rfl rfl rfl (op_boxa 2 rfl (ev1 rfl) rfl) (by simp only [upd, List.set_cons_zero, List.set_cons_succ]; exact rfl) ?_
  refine walk_w rfl rfl rfl (op_alloc 3 rfl zr38 rfl) (by simp only [upd, List.set_cons_zero, List.set_cons_succ]; exact rfl) ?_
  refine walk_nil ?_
  refine dwp_seq ?_
  refine dwp_region ?_
  refine walk_r rfl rfl rfl (op_fa rfl fo49_0 (ev1 rfl)) ?_
  refine walk_r rfl rfl rfl (op_ldo rfl tb3 (ev1 rfl) rfl rfl) ?_
  refine walk_r rfl rfl rfl (op_geq rfl (ev1 rfl) (ev1 rfl)) ?_
  refine walk_r rfl rfl rfl (op_move (.inl rfl) (ev1 rfl)) ?_
  refine walk_gr (gd_t rfl rfl rfl) rfl rfl rfl (op_fa rfl fo49_0 (ev1 rfl)) ?_
  refine walk_gr (gd_t rfl rfl rfl) rfl rfl rfl (op_ldo rfl tb3 (ev2 rfl) rfl rfl) ?_
  refine walk_gr (gd_t rfl rfl rfl) rfl rfl rfl (op_leq rfl (ev2 rfl) (ev1 rfl)) ?_
  refine walk_r rfl rfl rfl (op_and rfl (ev1 rfl) (ev3 rfl id)) ?_
  refine walk_r rfl rfl rfl (dop_call [] [] [] rfl (ev1 rfl) (ec (ev1 rfl) (ec (ev1 rfl) en)) rfl rfl (need_ok _ _ (rfl)) rfl rfl rfl rfl rfl rfl) ?_
  refine walk_nil ?_
  refine dwp_seq ?_
  refine dwp_draw [([], []), ([2], []), ([], []), ([], []), ([], []), ([2], []), ([], []), ([], []), ([], []), ([], []), ([0], []), ([1], []), ([], []), ([], []), ([], [])] mixed (by kernel_rfl) ?_
  refine lex_r rfl rfl (op_fa rfl fo49_1 (ev1 rfl)) ?_
  refine lex_r rfl rfl (op_ldo rfl tb3 (ev1 rfl) rfl rfl) ?_
  refine lex_r rfl rfl (op_geq rfl (ev1 rfl) (ev1 rfl)) ?_
  refine lex_r rfl rfl (op_move (.inl rfl) (ev1 rfl)) ?_
  refine lex_gr (gd_t rfl rfl rfl) rfl rfl (op_fa rfl fo49_1 (ev1 rfl)) ?_
  refine lex_gr (gd_t rfl rfl rfl) rfl rfl (op_ldo rfl tb3 (ev2 rfl) rfl rfl) ?_
  refine lex_gr (gd_t rfl rfl rfl) rfl rfl (op_move (.inl rfl) (ev1 rfl)) ?_
  refine lex_gr (gd_t rfl rfl rfl) rfl rfl (op_nc rfl (ev2 rfl) (fun s v h => by cases h; exact ⟨_, rfl⟩)) ?_
  refine lex_gr (gd_t rfl rfl rfl) rfl rfl (op_fa rfl fo76_0 (ev2 rfl)) ?_
  refine lex_gr (gd_t rfl rfl rfl) rfl rfl (op_fa rfl fo25_0 (ev2 rfl)) ?_
  refine lex_gr (gd_t rfl rfl rfl) rfl rfl (op_ldm rfl tb22 (ev2 rfl) rfl rfl) ?_
  refine lex_gr (gd_t rfl rfl rfl) rfl rfl (op_lenx rfl sl22 (ev2 rfl) rfl) ?_
  refine lex_gr (gd_t rfl rfl rfl) rfl rfl (op_lss rfl (ev2 rfl) (ev2 rfl)) ?_
  refine lex_r rfl rfl (op_and rfl (ev1 rfl) (ev3 rfl id)) ?_
  refine lex_r rfl rfl (dop_call [] [] [] rfl (ev1 rfl) (ec (ev1 rfl) (ec (ev1 rfl) en)) rfl rfl (need_ok _ _ (by simp; omega)) rfl rfl rfl rfl rfl rfl) ?_
  refine lex_nil ?_
  refine dwp_seq ?_
  refine dwp_draw [([], []), ([], []), ([2], []), ([], []), ([], []), ([2], []), ([0, 1], [0, 1]), ([3], [3])] mixed (by kernel_rfl) ?_
  refine lex_r rfl rfl (dop_call [] [] [] rfl (ev1 rfl) en rfl rfl (tricks_d) rfl rfl rfl rfl rfl rfl) ?_
  refine lex_r rfl rfl (op_fa rfl fo49_0 (ev1 rfl)) ?_
  refine lex_r rfl rfl (op_ldo rfl tb3 (ev1 rfl) rfl rfl) ?_
  refine lex_r rfl rfl (op_ixw 3 rfl aw101 (ev1 rfl) (ev1 rfl) (fun _ => rfl) (by decide) rfl) ?_
  refine lex_r rfl rfl (op_move (.inl rfl) (ev1 rfl)) ?_
  refine lex_r rfl rfl (op_ldw rfl tb49 (ev1 rfl) rfl rfl) ?_
  refine lex_w rfl rfl (dop_call [0, 1] [] [] rfl (ev1 rfl) (ec (ev1 rfl) (ec (ev1 rfl) en)) rfl (by exact mfits _ _ ⟨rfl, (by first | exact rfl | exact arx_fits rfl rfl (vwL_flat (fun _ => rfl) _) | exact arxr_fits rfl rfl (nlL_flatR (fun _ => rfl) _) | exact arxg_fits rfl rfl (fun _ => rfl) | exact arxs_fits rfl rfl (fun _ => rfl)), trivial⟩) (twice_full P L _ _ _ j h hP hL) rfl rfl rfl (by exact (wrc rfl (wrc (by first | exact rfl | exact sb_arx (fun _ => rfl) | exact sb_arxr (nlL_flatR (fun _ => rfl) _) | exact sb_arxg (fun _ => rfl) | exact sb_arxs (fun _ => rfl)) rfl))) rfl rfl) rfl (by simp only [upd, List.set_cons_zero, List.set_cons_succ]; exact rfl) ?_
  refine lex_s rfl rfl (op_stwa rfl tb38 (ev1 rfl) (ev1 rfl) rfl rfl rfl rfl) rfl (by simp only [upd, List.set_cons_zero, List.set_cons_succ]; exact rfl) ?_
  refine lex_nil ?_
  refine dwp_ret ?_
  refine kend [0, 1] (rs1 rfl (rv_w tb38 rfl rfl rfl)) rfl rfl ?_ ⟨?_, ?_, trivial⟩
  rfl
  all_goals first | exact rfl | exact arxr_fits rfl rfl (fl_nl _) | exact arxr_fits (by simp) rfl (fl_nl _)

set_option maxRecDepth 4000 in
set_option maxHeartbeats 1000000 in
theorem do_spl (P : List Par) (L : Nat) (bit mask : Nat) (j : Nat) (h : j < P.length) (hsp : P[j].sp = false) (hm : mask < 2 ^ 32) (hb : bit < 8 * P[j].b.length) (hl : P[j].b.length ≤ 1000000) (hn : ∀ x ∈ P[j].b, x < 256) (h0 : ¬ ∀ k, k < P[j].b.length → ((mask <<< bit) >>> (8 * k)) % 256 = 0) : DFun Try.prog 48 [.loc 0 0, .val (.agg #[.int .i64 4, .int .i64 (j : Int), .int .i64 (bit : Int), .int .u32 (mask : Int)])] [.mix 76 [.arr 1, .val (.int .u64 ((L : Nat) : Int))], .arx 38 3 (P).length ((P).flatMap pD)] (.val (.agg #[.int .i64 0, .slice none 0 0, .bool false])) [.mix 76 [.arr 1, .val (.int .u64 ((L : Nat) : Int))], .arx 38 3 ((P.set j ⟨P[j].to, spl (mask <<< bit) P[j].b, true⟩)).length (((P.set j ⟨P[j].to, spl (mask <<< bit) P[j].b, true⟩)).flatMap pD)] := by
  refine dcalls_go (N := 36) 2 (by kernel_rfl) Try.func48 rfl rfl rfl (by simp only [fr0, Nat.zero_add, Nat.reduceAdd]; exact rfl) rfl fun s0 hs0 => ?_
  refine dwp_seq ?_
  refine dwp_holes 2 (by simp only [holes, List.cons_append, List.nil_append]; exact rfl) ?_
  refine dwp_region ?_
  refine walk_w rfl rfl rfl (op_boxa 2 rfl (ev1 rfl) rfl) (by simp only [upd, List.set_cons_zero, List.set_cons_succ]; exact rfl) ?_
  refine walk_w rfl rfl rfl (op_alloc 3 rfl zr38 rfl) (by simp only [upd, List.set_cons_zero, List.set_cons_succ]; exact rfl) ?_
  refine walk_nil ?_
  refine dwp_seq ?_
  refine dwp_region ?_
  refine walk_r rfl rfl rfl (op_fa rfl fo49_0 (ev1 rfl)) ?_
  refine walk_r rfl rfl rfl (op_ldo rfl tb3 (ev1 rfl) rfl rfl) ?_
  refine walk_r rfl rfl rfl (op_geq rfl (ev1 rfl) (ev1 rfl)) ?_
  refine walk_r rfl rfl rfl (op_move (.inl rfl) (ev1 rfl)) ?_
  refine walk_gr (gd_t rfl rfl rfl) rfl rfl rfl (op_fa rfl fo49_0 (ev1 rfl)) ?_
  refine walk_gr (gd_t rfl rfl rfl) rfl rfl rfl (op_ldo rfl tb3 (ev2 rfl) rfl rfl) ?_
  refine walk_gr (gd_t rfl rfl rfl) rfl rfl rfl (op_leq rfl (ev2 rfl) (ev1 rfl)) ?_
  refine walk_r rfl rfl rfl (op_and rfl (ev1 rfl) (ev3 rfl id)) ?_
  refine walk_r rfl rfl rfl (dop_call [] [] [] rfl (ev1 rfl) (ec (ev1 rfl) (ec (ev1 rfl) en)) rfl rfl (need_ok _ _ (rfl)) rfl rfl rfl rfl rfl rfl) ?_
  refine walk_nil ?_
  refine dwp_seq ?_
  refine dwp_draw [([], []), ([2], []), ([], []), ([], []), ([], []), ([2], []), ([], []), ([], []), ([], []), ([], []), ([0], []), ([1], []), ([], []), ([], []), ([], [])] mixed (by kernel_rfl) ?_
  refine lex_r rfl rfl (op_fa rfl fo49_1 (ev1 rfl)) ?_
  refine lex_r rfl rfl (op_ldo rfl tb3 (ev1 rfl) rfl rfl) ?_
  refine lex_r rfl rfl (op_geq rfl (ev1 rfl) (ev1 rfl)) ?_
  refine lex_r rfl rfl (op_move (.inl rfl) (ev1 rfl)) ?_
  refine lex_gr (gd_t rfl rfl rfl) rfl rfl (op_fa rfl fo49_1 (ev1 rfl)) ?_
  refine lex_gr (gd_t rfl rfl rfl) rfl rfl (op_ldo rfl tb3 (ev2 rfl) rfl rfl) ?_
  refine lex_gr (gd_t rfl rfl rfl) rfl rfl (op_move (.inl rfl) (ev1 rfl)) ?_
  refine lex_gr (gd_t rfl rfl rfl) rfl rfl (op_nc rfl (ev2 rfl) (fun s v h => by cases h; exact ⟨_, rfl⟩)) ?_
  refine lex_gr (gd_t rfl rfl rfl) rfl rfl (op_fa rfl fo76_0 (ev2 rfl)) ?_
  refine lex_gr (gd_t rfl rfl rfl) rfl rfl (op_fa rfl fo25_0 (ev2 rfl)) ?_
  refine lex_gr (gd_t rfl rfl rfl) rfl rfl (op_ldm rfl tb22 (ev2 rfl) rfl rfl) ?_
  refine lex_gr (gd_t rfl rfl rfl) rfl rfl (op_lenx rfl sl22 (ev2 rfl) rfl) ?_
  refine lex_gr (gd_t rfl rfl rfl) rfl rfl (op_lss rfl (ev2 rfl) (ev2 rfl)) ?_
  refine lex_r rfl rfl (op_and rfl (ev1 rfl) (ev3 rfl id)) ?_
  refine lex_r rfl rfl (dop_call [] [] [] rfl (ev1 rfl) (ec (ev1 rfl) (ec (ev1 rfl) en)) rfl rfl (need_ok _ _ (by simp; omega)) rfl rfl rfl rfl rfl rfl) ?_
  refine lex_nil ?_
  refine dwp_seq ?_
  refine dwp_draw [([], []), ([], []), ([2], []), ([], []), ([], []), ([2], []), ([0, 1], [0, 1]), ([3], [3])] mixed (by kernel_rfl) ?_
  refine lex_r rfl rfl (dop_call [] [] [] rfl (ev1 rfl) en rfl rfl (tricks_d) rfl rfl rfl rfl rfl rfl) ?_
  refine lex_r rfl rfl (op_fa rfl fo49_0 (ev1 rfl)) ?_
  refine lex_r rfl rfl (op_ldo rfl tb3 (ev1 rfl) rfl rfl) ?_
  refine lex_r rfl rfl (op_ixw 4 rfl aw101 (ev1 rfl) (ev1 rfl) (fun _ => rfl) (by decide) rfl) ?_
  refine lex_r rfl rfl (op_move (.inl rfl) (ev1 rfl)) ?_
  refine lex_r rfl rfl (op_ldw rfl tb49 (ev1 rfl) rfl rfl) ?_
  refine lex_w rfl rfl (dop_call [0, 1] [] [] rfl (ev1 rfl) (ec (ev1 rfl) (ec (ev1 rfl) en)) rfl (by exact mfits _ _ ⟨rfl, (by first | exact rfl | exact arx_fits rfl rfl (vwL_flat (fun _ => rfl) _) | exact arxr_fits rfl rfl (nlL_flatR (fun _ => rfl) _) | exact arxg_fits rfl rfl (fun _ => rfl) | exact arxs_fits rfl rfl (fun _ => rfl)), trivial⟩) (spl_o P L _ bit mask j h hsp hm hb hl hn h0) rfl rfl rfl (by exact (wrc rfl (wrc (by first | exact rfl | exact sb_arx (fun _ => rfl) | exact sb_arxr (nlL_flatR (fun _ => rfl) _) | exact sb_arxg (fun _ => rfl) | exact sb_arxs (fun _ => rfl)) rfl))) rfl rfl) rfl (by simp only [upd, List.set_cons_zero, List.set_cons_succ]; exact rfl) ?_
  refine lex_s rfl rfl (op_stwa rfl tb38 (ev1 rfl) (ev1 rfl) rfl rfl rfl rfl) rfl (by simp only [upd, List.set_cons_zero, List.set_cons_succ]; exact rfl) ?_
  refine lex_nil ?_
  refine dwp_ret ?_
  refine kend [0, 1] (rs1 rfl (rv_w tb38 rfl rfl rfl)) rfl rfl ?_ ⟨?_, ?_, trivial⟩
  rfl
  all_goals first | exact rfl | exact arxr_fits rfl rfl (fl_nl _) | exact arxr_fits (by simp) rfl (fl_nl _)

set_option maxRecDepth 4000 in
set_option maxHeartbeats 1000000 in
theorem do_there (P : List Par) (L : Nat) (bt mk : Int) (j : Nat) (h : j < P.length) (hsp : P[j].sp = true) : DPan Try.prog 48 [.loc 0 0, .val (.agg #[.int .i64 4, .int .i64 (j : Int), .int .i64 bt, .int .u32 mk])] [.mix 76 [.arr 1, .val (.int .u64 ((L : Nat) : Int))], .arx 38 3 (P).length ((P).flatMap pD)] (.ifc 97 (.val (.agg #[.int .i64 5]))) [.mix 76 [.arr 1, .val (.int .u64 ((L : Nat) : Int))], .arx 38 3 (P).length ((P).flatMap pD)] := by
  refine dcalls_go (N := 36) 2 (by kernel_rfl) Try.func48 rfl rfl rfl (by simp only [fr0, Nat.zero_add, Nat.reduceAdd]; exact rfl) rfl fun s0 hs0 => ?_
  refine dwp_seq ?_
  refine dwp_holes 2 (by simp only [holes, List.cons_append, List.nil_append]; exact rfl) ?_
  refine dwp_region ?_
  refine walk_w rfl rfl rfl (op_boxa 2 rfl (ev1 rfl) rfl) (by simp only [upd, List.set_cons_zero, List.set_cons_succ]; exact rfl) ?_
  refine walk_w rfl rfl rfl (op_alloc 3 rfl zr38 rfl) (by simp only [upd, List.set_cons_zero, List.set_cons_succ]; exact rfl) ?_
  refine walk_nil ?_
  refine dwp_seq ?_
  refine dwp_region ?_
  refine walk_r rfl rfl rfl (op_fa rfl fo49_0 (ev1 rfl)) ?_
  refine walk_r rfl rfl rfl (op_ldo rfl tb3 (ev1 rfl) rfl rfl) ?_
  refine walk_r rfl rfl rfl (op_geq rfl (ev1 rfl) (ev1 rfl)) ?_
  refine walk_r rfl rfl rfl (op_move (.inl rfl) (ev1 rfl)) ?_
  refine walk_gr (gd_t rfl rfl rfl) rfl rfl rfl (op_fa rfl fo49_0 (ev1 rfl)) ?_
  refine walk_gr (gd_t rfl rfl rfl) rfl rfl rfl (op_ldo rfl tb3 (ev2 rfl) rfl rfl) ?_
  refine walk_gr (gd_t rfl rfl rfl) rfl rfl rfl (op_leq rfl (ev2 rfl) (ev1 rfl)) ?_
  refine walk_r rfl rfl rfl (op_and rfl (ev1 rfl) (ev3 rfl id)) ?_
  refine walk_r rfl rfl rfl (dop_call [] [] [] rfl (ev1 rfl) (ec (ev1 rfl) (ec (ev1 rfl) en)) rfl rfl (need_ok _ _ (rfl)) rfl rfl rfl rfl rfl rfl) ?_
  refine walk_nil ?_
  refine dwp_seq ?_
  refine dwp_draw [([], []), ([2], []), ([], []), ([], []), ([], []), ([2], []), ([], []), ([], []), ([], []), ([], []), ([0], []), ([1], []), ([], []), ([], []), ([], [])] mixed (by kernel_rfl) ?_
  refine lex_r rfl rfl (op_fa rfl fo49_1 (ev1 rfl)) ?_
  refine lex_r rfl rfl (op_ldo rfl tb3 (ev1 rfl) rfl rfl) ?_
  refine lex_r rfl rfl (op_geq rfl (ev1 rfl) (ev1 rfl)) ?_
  refine lex_r rfl rfl (op_move (.inl rfl) (ev1 rfl)) ?_
  refine lex_gr (gd_t rfl rfl rfl) rfl rfl (op_fa rfl fo49_1 (ev1 rfl)) ?_
  refine lex_gr (gd_t rfl rfl rfl) rfl rfl (op_ldo rfl tb3 (ev2 rfl) rfl rfl) ?_
  refine lex_gr (gd_t rfl rfl rfl) rfl rfl (op_move (.inl rfl) (ev1 rfl)) ?_
  refine lex_gr (gd_t rfl rfl rfl) rfl rfl (op_nc rfl (ev2 rfl) (fun s v h => by cases h; exact ⟨_, rfl⟩)) ?_
  refine lex_gr (gd_t rfl rfl rfl) rfl rfl (op_fa rfl fo76_0 (ev2 rfl)) ?_
  refine lex_gr (gd_t rfl rfl rfl) rfl rfl (op_fa rfl fo25_0 (ev2 rfl)) ?_
  refine lex_gr (gd_t rfl rfl rfl) rfl rfl (op_ldm rfl tb22 (ev2 rfl) rfl rfl) ?_
  refine lex_gr (gd_t rfl rfl rfl) rfl rfl (op_lenx rfl sl22 (ev2 rfl) rfl) ?_
  refine lex_gr (gd_t rfl rfl rfl) rfl rfl (op_lss rfl (ev2 rfl) (ev2 rfl)) ?_
  refine lex_r rfl rfl (op_and rfl (ev1 rfl) (ev3 rfl id)) ?_
  refine lex_r rfl rfl (dop_call [] [] [] rfl (ev1 rfl) (ec (ev1 rfl) (ec (ev1 rfl) en)) rfl rfl (need_ok _ _ (by simp; omega)) rfl rfl rfl rfl rfl rfl) ?_
  refine lex_nil ?_
  refine dwp_seq ?_
  refine dwp_drawP 6 [([], []), ([], []), ([2], []), ([], []), ([], []), ([2], [])] mixed (by kernel_rfl) rfl rfl ?_
  refine lex_r rfl rfl (dop_call [] [] [] rfl (ev1 rfl) en rfl rfl (tricks_d) rfl rfl rfl rfl rfl rfl) ?_
  refine lex_r rfl rfl (op_fa rfl fo49_0 (ev1 rfl)) ?_
  refine lex_r rfl rfl (op_ldo rfl tb3 (ev1 rfl) rfl rfl) ?_
  refine lex_r rfl rfl (op_ixw 4 rfl aw101 (ev1 rfl) (ev1 rfl) (fun _ => rfl) (by decide) rfl) ?_
  refine lex_r rfl rfl (op_move (.inl rfl) (ev1 rfl)) ?_
  refine lex_r rfl rfl (op_ldw rfl tb49 (ev1 rfl) rfl rfl) ?_
  refine lex_nil ⟨_, _, _, rfl, dop_callP [0, 1] [] [] rfl (ev1 rfl) (ec (ev1 rfl) (ec (ev1 rfl) en)) rfl (by exact mfits _ _ ⟨rfl, (by first | exact rfl | exact arx_fits rfl rfl (vwL_flat (fun _ => rfl) _) | exact arxr_fits rfl rfl (nlL_flatR (fun _ => rfl) _) | exact arxg_fits rfl rfl (fun _ => rfl) | exact arxs_fits rfl rfl (fun _ => rfl)), trivial⟩) (spl_there P L _ _ _ j h hsp) rfl rfl rfl (by exact (wrc rfl (wrc (by first | exact rfl | exact sb_arx (fun _ => rfl) | exact sb_arxr (nlL_flatR (fun _ => rfl) _) | exact sb_arxg (fun _ => rfl) | exact sb_arxs (fun _ => rfl)) rfl))) rfl rfl, ?_⟩
  refine kpan [0, 1] rfl rfl ?_ ⟨?_, ?_, trivial⟩
  rfl
  all_goals first | exact rfl | exact arxr_fits rfl rfl (fl_nl _) | exact arxr_fits (by simp) rfl (fl_nl _)

set_option maxRecDepth 4000 in
set_option maxHeartbeats 1000000 in
theorem do_no (P : List Par) (L : Nat) (bit mask : Nat) (j : Nat) (h : j < P.length) (hsp : P[j].sp = false) (hm : mask < 2 ^ 32) (hb : bit < 8 * P[j].b.length) (hl : P[j].b.length ≤ 1000000) (hn : ∀ x ∈ P[j].b, x < 256) (h0 : ∀ k, k < P[j].b.length → ((mask <<< bit) >>> (8 * k)) % 256 = 0) : DPan Try.prog 48 [.loc 0 0, .val (.agg #[.int .i64 4, .int .i64 (j : Int), .int .i64 (bit : Int), .int .u32 (mask : Int)])] [.mix 76 [.arr 1, .val (.int .u64 ((L : Nat) : Int))], .arx 38 3 (P).length ((P).flatMap pD)] (.ifc 97 (.val (.agg #[.int .i64 2]))) [.mix 76 [.arr 1, .val (.int .u64 ((L : Nat) : Int))], .arx 38 3 (P).length ((P).flatMap pD)] := by
  refine dcalls_go (N := 36) 2 (by kernel_rfl) Try.func48 rfl rfl rfl (by simp only [fr0, Nat.zero_add, Nat.reduceAdd]; exact rfl) rfl fun s0 hs0 => ?_
  refine dwp_seq ?_
  refine dwp_holes 2 (by simp only [holes, List.cons_append, List.nil_append]; exact rfl) ?_
  refine dwp_region ?_
  refine walk_w rfl rfl rfl (op_boxa 2 rfl (ev1 rfl) rfl) (by simp only [upd, List.set_cons_zero, List.set_cons_succ]; exact rfl) ?_
  refine walk_w rfl rfl rfl (op_alloc 3 rfl zr38 rfl) (by simp only [upd, List.set_cons_zero, List.set_cons_succ]; exact rfl) ?_
  refine walk_nil ?_
  refine dwp_seq ?_
  refine dwp_region ?_
  refine walk_r rfl rfl rfl (op_fa rfl fo49_0 (ev1 rfl)) ?_
  refine walk_r rfl rfl rfl (op_ldo rfl tb3 (ev1 rfl) rfl rfl) ?_
  refine walk_r rfl rfl rfl (op_geq rfl (ev1 rfl) (ev1 rfl)) ?_
  refine walk_r rfl rfl rfl (op_move (.inl rfl) (ev1 rfl)) ?_
  refine walk_gr (gd_t rfl rfl rfl) rfl rfl rfl (op_fa rfl fo49_0 (ev1 rfl)) ?_
  refine walk_gr (gd_t rfl rfl rfl) rfl rfl rfl (op_ldo rfl tb3 (ev2 rfl) rfl rfl) ?_
  refine walk_gr (gd_t rfl rfl rfl) rfl rfl rfl (op_leq rfl (ev2 rfl) (ev1 rfl)) ?_
  refine walk_r rfl rfl rfl (op_and rfl (ev1 rfl) (ev3 rfl id)) ?_
  refine walk_r rfl rfl rfl (dop_call [] [] [] rfl (ev1 rfl) (ec (ev1 rfl) (ec (ev1 rfl) en)) rfl rfl (need_ok _ _ (rfl)) rfl rfl rfl rfl rfl rfl) ?_
  refine walk_nil ?_
  refine dwp_seq ?_
  refine dwp_draw [([], []), ([2], []), ([], []), ([], []), ([], []), ([2], []), ([], []), ([], []), ([], []), ([], []), ([0], []), ([1], []), ([], []), ([], []), ([], [])] mixed (by kernel_rfl) ?_
  refine lex_r rfl rfl (op_fa rfl fo49_1 (ev1 rfl)) ?_
  refine lex_r rfl rfl (op_ldo rfl tb3 (ev1 rfl) rfl rfl) ?_
  refine lex_r rfl rfl (op_geq rfl (ev1 rfl) (ev1 rfl)) ?_
  refine lex_r rfl rfl (op_move (.inl rfl) (ev1 rfl)) ?_
  refine lex_gr (gd_t rfl rfl rfl) rfl rfl (op_fa rfl fo49_1 (ev1 rfl)) ?_
  refine lex_gr (gd_t rfl rfl rfl) rfl rfl (op_ldo rfl tb3 (ev2 rfl) rfl rfl) ?_
  refine lex_gr (gd_t rfl rfl rfl) rfl rfl (op_move (.inl rfl) (ev1 rfl)) ?_
  refine lex_gr (gd_t rfl rfl rfl) rfl rfl (op_nc rfl (ev2 rfl) (fun s v h => by cases h; exact ⟨_, rfl⟩)) ?_
  refine lex_gr (gd_t rfl rfl rfl) rfl rfl (op_fa rfl fo76_0 (ev2 rfl)) ?_
  refine lex_gr (gd_t rfl rfl rfl) rfl rfl (op_fa rfl fo25_0 (ev2 rfl)) ?_
  refine lex_gr (gd_t rfl rfl rfl) rfl rfl (op_ldm rfl tb22 (ev2 rfl) rfl rfl) ?_
  refine lex_gr (gd_t rfl rfl rfl) rfl rfl (op_lenx rfl sl22 (ev2 rfl) rfl) ?_
  refine lex_gr (gd_t rfl rfl rfl) rfl rfl (op_lss rfl (ev2 rfl) (ev2 rfl)) ?_
  refine lex_r rfl rfl (op_and rfl (ev1 rfl) (ev3 rfl id)) ?_
  refine lex_r rfl rfl (dop_call [] [] [] rfl (ev1 rfl) (ec (ev1 rfl) (ec (ev1 rfl) en)) rfl rfl (need_ok _ _ (by simp; omega)) rfl rfl rfl rfl rfl rfl) ?_
  refine lex_nil ?_
  refine dwp_seq ?_
  refine dwp_drawP 6 [([], []), ([], []), ([2], []), ([], []), ([], []), ([2], [])] mixed (by kernel_rfl) rfl rfl ?_
  refine lex_r rfl rfl (dop_call [] [] [] rfl (ev1 rfl) en rfl rfl (tricks_d) rfl rfl rfl rfl rfl rfl) ?_
  refine lex_r rfl rfl (op_fa rfl fo49_0 (ev1 rfl)) ?_
  refine lex_r rfl rfl (op_ldo rfl tb3 (ev1 rfl) rfl rfl) ?_
  refine lex_r rfl rfl (op_ixw 4 rfl aw101 (ev1 rfl) (ev1 rfl) (fun _ => rfl) (by decide) rfl) ?_
  refine lex_r rfl rfl (op_move (.inl rfl) (ev1 rfl)) ?_
  refine lex_r rfl rfl (op_ldw rfl tb49 (ev1 rfl) rfl rfl) ?_
  refine lex_nil ⟨_, _, _, rfl, dop_callP [0, 1] [] [] rfl (ev1 rfl) (ec (ev1 rfl) (ec (ev1 rfl) en)) rfl (by exact mfits _ _ ⟨rfl, (by first | exact rfl | exact arx_fits rfl rfl (vwL_flat (fun _ => rfl) _) | exact arxr_fits rfl rfl (nlL_flatR (fun _ => rfl) _) | exact arxg_fits rfl rfl (fun _ => rfl) | exact arxs_fits rfl rfl (fun _ => rfl)), trivial⟩) (spl_no P L _ bit mask j h hsp hm hb hl hn h0) rfl rfl rfl (by exact (wrc rfl (wrc (by first | exact rfl | exact sb_arx (fun _ => rfl) | exact sb_arxr (nlL_flatR (fun _ => rfl) _) | exact sb_arxg (fun _ => rfl) | exact sb_arxs (fun _ => rfl)) rfl))) rfl rfl, ?_⟩
  refine kpan [0, 1] rfl rfl ?_ ⟨?_, ?_, trivial⟩
  rfl
  all_goals first | exact rfl | exact arxr_fits rfl rfl (fl_nl _) | exact arxr_fits (by simp) rfl (fl_nl _)

set_option maxRecDepth 4000 in
set_option maxHeartbeats 1000000 in
theorem do_out (P : List Par) (L : Nat) (bt : Int) (mask : Nat) (j : Nat) (h : j < P.length) (hsp : P[j].sp = false) (hbm : bt ≤ 9223372036854775807) (hout : bt < 0 ∨ 8 * (P[j].b.length : Int) ≤ bt) : DPan Try.prog 48 [.loc 0 0, .val (.agg #[.int .i64 4, .int .i64 (j : Int), .int .i64 bt, .int .u32 (mask : Int)])] [.mix 76 [.arr 1, .val (.int .u64 ((L : Nat) : Int))], .arx 38 3 (P).length ((P).flatMap pD)] (.ifc 97 (.val (.agg #[.int .i64 2]))) [.mix 76 [.arr 1, .val (.int .u64 ((L : Nat) : Int))], .arx 38 3 (P).length ((P).flatMap pD)] := by
  refine dcalls_go (N := 36) 2 (by kernel_rfl) Try.func48 rfl rfl rfl (by simp only [fr0, Nat.zero_add, Nat.reduceAdd]; exact rfl) rfl fun s0 hs0 => ?_
  refine dwp_seq ?_
  refine dwp_holes 2 (by simp only [holes, List.cons_append, List.nil_append]; exact rfl) ?_
  refine dwp_region ?_
  refine walk_w rfl rfl rfl (op_boxa 2 rfl (ev1 rfl) rfl) (by simp only [upd, List.set_cons_zero, List.set_cons_succ]; exact rfl) ?_
  refine walk_w rfl rfl rfl (op_alloc 3 rfl zr38 rfl) (by simp only [upd, List.set_cons_zero, List.set_cons_succ]; exact rfl) ?_
  refine walk_nil ?_
  refine dwp_seq ?_
  refine dwp_region ?_
  refine walk_r rfl rfl rfl (op_fa rfl fo49_0 (ev1 rfl)) ?_
  refine walk_r rfl rfl rfl (op_ldo rfl tb3 (ev1 rfl) rfl rfl) ?_
  refine walk_r rfl rfl rfl (op_geq rfl (ev1 rfl) (ev1 rfl)) ?_
  refine walk_r rfl rfl rfl (op_move (.inl rfl) (ev1 rfl)) ?_
  refine walk_gr (gd_t rfl rfl rfl) rfl rfl rfl (op_fa rfl fo49_0 (ev1 rfl)) ?_
  refine walk_gr (gd_t rfl rfl rfl) rfl rfl rfl (op_ldo rfl tb3 (ev2 rfl) rfl rfl) ?_
  refine walk_gr (gd_t rfl rfl rfl) rfl rfl rfl (op_leq rfl (ev2 rfl) (ev1 rfl)) ?_
  refine walk_r rfl rfl rfl (op_and rfl (ev1 rfl) (ev3 rfl id)) ?_
  refine walk_r rfl rfl rfl (dop_call [] [] [] rfl (ev1 rfl) (ec (ev1 rfl) (ec (ev1 rfl) en)) rfl rfl (need_ok _ _ (rfl)) rfl rfl rfl rfl rfl rfl) ?_
  refine walk_nil ?_
  refine dwp_seq ?_
  refine dwp_draw [([], []), ([2], []), ([], []), ([], []), ([], []), ([2], []), ([], []), ([], []), ([], []), ([], []), ([0], []), ([1], []), ([], []), ([], []), ([], [])] mixed (by kernel_rfl) ?_
  refine lex_r rfl rfl (op_fa rfl fo49_1 (ev1 rfl)) ?_
  refine lex_r rfl rfl (op_ldo rfl tb3 (ev1 rfl) rfl rfl) ?_
  refine lex_r rfl rfl (op_geq rfl (ev1 rfl) (ev1 rfl)) ?_
  refine lex_r rfl rfl (op_move (.inl rfl) (ev1 rfl)) ?_
  refine lex_gr (gd_t rfl rfl rfl) rfl rfl (op_fa rfl fo49_1 (ev1 rfl)) ?_
  refine lex_gr (gd_t rfl rfl rfl) rfl rfl (op_ldo rfl tb3 (ev2 rfl) rfl rfl) ?_
  refine lex_gr (gd_t rfl rfl rfl) rfl rfl (op_move (.inl rfl) (ev1 rfl)) ?_
  refine lex_gr (gd_t rfl rfl rfl) rfl rfl (op_nc rfl (ev2 rfl) (fun s v h => by cases h; exact ⟨_, rfl⟩)) ?_
  refine lex_gr (gd_t rfl rfl rfl) rfl rfl (op_fa rfl fo76_0 (ev2 rfl)) ?_
  refine lex_gr (gd_t rfl rfl rfl) rfl rfl (op_fa rfl fo25_0 (ev2 rfl)) ?_
  refine lex_gr (gd_t rfl rfl rfl) rfl rfl (op_ldm rfl tb22 (ev2 rfl) rfl rfl) ?_
  refine lex_gr (gd_t rfl rfl rfl) rfl rfl (op_lenx rfl sl22 (ev2 rfl) rfl) ?_
  refine lex_gr (gd_t rfl rfl rfl) rfl rfl (op_lss rfl (ev2 rfl) (ev2 rfl)) ?_
  refine lex_r rfl rfl (op_and rfl (ev1 rfl) (ev3 rfl id)) ?_
  refine lex_r rfl rfl (dop_call [] [] [] rfl (ev1 rfl) (ec (ev1 rfl) (ec (ev1 rfl) en)) rfl rfl (need_ok _ _ (by simp; omega)) rfl rfl rfl rfl rfl rfl) ?_
  refine lex_nil ?_
  refine dwp_seq ?_
  refine dwp_drawP 6 [([], []), ([], []), ([2], []), ([], []), ([], []), ([2], [])] mixed (by kernel_rfl) rfl rfl ?_
  refine lex_r rfl rfl (dop_call [] [] [] rfl (ev1 rfl) en rfl rfl (tricks_d) rfl rfl rfl rfl rfl rfl) ?_
  refine lex_r rfl rfl (op_fa rfl fo49_0 (ev1 rfl)) ?_
  refine lex_r rfl rfl (op_ldo rfl tb3 (ev1 rfl) rfl rfl) ?_
  refine lex_r rfl rfl (op_ixw 4 rfl aw101 (ev1 rfl) (ev1 rfl) (fun _ => rfl) (by decide) rfl) ?_
  refine lex_r rfl rfl (op_move (.inl rfl) (ev1 rfl)) ?_
  refine lex_r rfl rfl (op_ldw rfl tb49 (ev1 rfl) rfl rfl) ?_
  refine lex_nil ⟨_, _, _, rfl, dop_callP [0, 1] [] [] rfl (ev1 rfl) (ec (ev1 rfl) (ec (ev1 rfl) en)) rfl (by exact mfits _ _ ⟨rfl, (by first | exact rfl | exact arx_fits rfl rfl (vwL_flat (fun _ => rfl) _) | exact arxr_fits rfl rfl (nlL_flatR (fun _ => rfl) _) | exact arxg_fits rfl rfl (fun _ => rfl) | exact arxs_fits rfl rfl (fun _ => rfl)), trivial⟩) (spl_out P L _ bt mask j h hsp hbm hout) rfl rfl rfl (by exact (wrc rfl (wrc (by first | exact rfl | exact sb_arx (fun _ => rfl) | exact sb_arxr (nlL_flatR (fun _ => rfl) _) | exact sb_arxg (fun _ => rfl) | exact sb_arxs (fun _ => rfl)) rfl))) rfl rfl, ?_⟩
  refine kpan [0, 1] rfl rfl ?_ ⟨?_, ?_, trivial⟩
  rfl
  all_goals first | exact rfl | exact arxr_fits rfl rfl (fl_nl _) | exact arxr_fits (by simp) rfl (fl_nl _)

set_option maxRecDepth 4000 in
set_option maxHeartbeats 1000000 in
theorem do_kind (P : List Par) (L : Nat) (kd at_ bt mk : Int) (hk : kd < 1 ∨ 4 < kd) : DPan Try.prog 48 [.loc 0 0, .val (.agg #[.int .i64 kd, .int .i64 at_, .int .i64 bt, .int .u32 mk])] [.mix 76 [.arr 1, .val (.int .u64 ((L : Nat) : Int))], .arx 38 3 (P).length ((P).flatMap pD)] (.ifc 97 (.val (.agg #[.int .i64 2]))) [.mix 76 [.arr 1, .val (.int .u64 ((L : Nat) : Int))], .arx 38 3 (P).length ((P).flatMap pD)] := by
  refine dcalls_go (N := 36) 2 (by kernel_rfl) Try.func48 rfl rfl rfl (by simp only [fr0, Nat.zero_add, Nat.reduceAdd]; exact rfl) rfl fun s0 hs0 => ?_
  refine dwp_seq ?_
  refine dwp_holes 2 (by simp only [holes, List.cons_append, List.nil_append]; exact rfl) ?_
  refine dwp_region ?_
  refine walk_w rfl rfl rfl (op_boxa 2 rfl (ev1 rfl) rfl) (by simp only [upd, List.set_cons_zero, List.set_cons_succ]; exact rfl) ?_
  refine walk_w rfl rfl rfl (op_alloc 3 rfl zr38 rfl) (by simp only [upd, List.set_cons_zero, List.set_cons_succ]; exact rfl) ?_
  refine walk_nil ?_
  refine dwp_seq ?_
  refine dwp_region ?_
  refine walk_r rfl rfl rfl (op_fa rfl fo49_0 (ev1 rfl)) ?_
  refine walk_r rfl rfl rfl (op_ldo rfl tb3 (ev1 rfl) rfl rfl) ?_
  refine walk_r rfl rfl rfl (op_geq rfl (ev1 rfl) (ev1 rfl)) ?_
  refine walk_r rfl rfl rfl (op_move (.inl rfl) (ev1 rfl)) ?_
  refine walk_gr (gd_t rfl rfl rfl) rfl rfl rfl (op_fa rfl fo49_0 (ev1 rfl)) ?_
  refine walk_gr (gd_t rfl rfl rfl) rfl rfl rfl (op_ldo rfl tb3 (ev2 rfl) rfl rfl) ?_
  refine walk_gr (gd_t rfl rfl rfl) rfl rfl rfl (op_leq rfl (ev2 rfl) (ev1 rfl)) ?_
  refine walk_r rfl rfl rfl (op_and rfl (ev1 rfl) (ev3 rfl id)) ?_
  refine walk_p rfl (dop_callP [] [] [] rfl (ev1 rfl) (ec (ev1 rfl) (ec (ev1 rfl) en)) rfl rfl (need_no _ _ (by simp; omega)) rfl rfl rfl rfl rfl rfl) rfl ?_
  refine kpan [0, 1] rfl rfl ?_ ⟨?_, ?_, trivial⟩
  rfl
  all_goals first | exact rfl | exact arxr_fits rfl rfl (fl_nl _) | exact arxr_fits (by simp) rfl (fl_nl _)

set_option maxRecDepth 4000 in
set_option maxHeartbeats 1000000 in
theorem do_at (P : List Par) (L : Nat) (kd at_ bt mk : Int) (hk : 1 ≤ kd ∧ kd ≤ 4) (ha : at_ < 0 ∨ (P.length : Int) ≤ at_) : DPan Try.prog 48 [.loc 0 0, .val (.agg #[.int .i64 kd, .int .i64 at_, .int .i64 bt, .int .u32 mk])] [.mix 76 [.arr 1, .val (.int .u64 ((L : Nat) : Int))], .arx 38 3 (P).length ((P).flatMap pD)] (.ifc 97 (.val (.agg #[.int .i64 4]))) [.mix 76 [.arr 1, .val (.int .u64 ((L : Nat) : Int))], .arx 38 3 (P).length ((P).flatMap pD)] := by
  refine dcalls_go (N := 36) 2 (by kernel_rfl) Try.func48 rfl rfl rfl (by simp only [fr0, Nat.zero_add, Nat.reduceAdd]; exact rfl) rfl fun s0 hs0 => ?_
  refine dwp_seq ?_
  refine dwp_holes 2 (by simp only [holes, List.cons_append, List.nil_append]; exact rfl) ?_
  refine dwp_region ?_
  refine walk_w rfl rfl rfl (op_boxa 2 rfl (ev1 rfl) rfl) (by simp only [upd, List.set_cons_zero, List.set_cons_succ]; exact rfl) ?_
  refine walk_w rfl rfl rfl (op_alloc 3 rfl zr38 rfl) (by simp only [upd, List.set_cons_zero, List.set_cons_succ]; exact rfl) ?_
  refine walk_nil ?_
  refine dwp_seq ?_
  refine dwp_region ?_
  refine walk_r rfl rfl rfl (op_fa rfl fo49_0 (ev1 rfl)) ?_
  refine walk_r rfl rfl rfl (op_ldo rfl tb3 (ev1 rfl) rfl rfl) ?_
  refine walk_r rfl rfl rfl (op_geq rfl (ev1 rfl) (ev1 rfl)) ?_
  refine walk_r rfl rfl rfl (op_move (.inl rfl) (ev1 rfl)) ?_
  refine walk_gr (gd_t rfl rfl rfl) rfl rfl rfl (op_fa rfl fo49_0 (ev1 rfl)) ?_
  refine walk_gr (gd_t rfl rfl rfl) rfl rfl rfl (op_ldo rfl tb3 (ev2 rfl) rfl rfl) ?_
  refine walk_gr (gd_t rfl rfl rfl) rfl rfl rfl (op_leq rfl (ev2 rfl) (ev1 rfl)) ?_
  refine walk_r rfl rfl rfl (op_and rfl (ev1 rfl) (ev3 rfl id)) ?_
  refine walk_r rfl rfl rfl (dop_call [] [] [] rfl (ev1 rfl) (ec (ev1 rfl) (ec (ev1 rfl) en)) rfl rfl (need_ok _ _ (by simp; omega)) rfl rfl rfl rfl rfl rfl) ?_
  refine walk_nil ?_
  refine dwp_seq ?_
  refine dwp_drawP 14 [([], []), ([2], []), ([], []), ([], []), ([], []), ([2], []), ([], []), ([], []), ([], []), ([], []), ([0], []), ([1], []), ([], []), ([], [])] mixed (by kernel_rfl) rfl rfl ?_
  refine lex_r rfl rfl (op_fa rfl fo49_1 (ev1 rfl)) ?_
  refine lex_r rfl rfl (op_ldo rfl tb3 (ev1 rfl) rfl rfl) ?_
  refine lex_r rfl rfl (op_geq rfl (ev1 rfl) (ev1 rfl)) ?_
  refine lex_r rfl rfl (op_move (.inl rfl) (ev1 rfl)) ?_
  refine lex_gr (gd_t rfl rfl rfl) rfl rfl (op_fa rfl fo49_1 (ev1 rfl)) ?_
  refine lex_gr (gd_t rfl rfl rfl) rfl rfl (op_ldo rfl tb3 (ev2 rfl) rfl rfl) ?_
  refine lex_gr (gd_t rfl rfl rfl) rfl rfl (op_move (.inl rfl) (ev1 rfl)) ?_
  refine lex_gr (gd_t rfl rfl rfl) rfl rfl (op_nc rfl (ev2 rfl) (fun s v h => by cases h; exact ⟨_, rfl⟩)) ?_
  refine lex_gr (gd_t rfl rfl rfl) rfl rfl (op_fa rfl fo76_0 (ev2 rfl)) ?_
  refine lex_gr (gd_t rfl rfl rfl) rfl rfl (op_fa rfl fo25_0 (ev2 rfl)) ?_
  refine lex_gr (gd_t rfl rfl rfl) rfl rfl (op_ldm rfl tb22 (ev2 rfl) rfl rfl) ?_
  refine lex_gr (gd_t rfl rfl rfl) rfl rfl (op_lenx rfl sl22 (ev2 rfl) rfl) ?_
  refine lex_gr (gd_t rfl rfl rfl) rfl rfl (op_lss rfl (ev2 rfl) (ev2 rfl)) ?_
  refine lex_r rfl rfl (op_and rfl (ev1 rfl) (ev3 rfl id)) ?_
  refine lex_nil ⟨_, _, _, rfl, dop_callP [] [] [] rfl (ev1 rfl) (ec (ev1 rfl) (ec (ev1 rfl) en)) rfl rfl (need_no _ _ (by simp; omega)) rfl rfl rfl rfl rfl rfl, ?_⟩
  refine kpan [0, 1] rfl rfl ?_ ⟨?_, ?_, trivial⟩
  rfl
  all_goals first | exact rfl | exact arxr_fits rfl rfl (fl_nl _) | exact arxr_fits (by simp) rfl (fl_nl _)

end Go.Proofs.Ytgomklemldldiaa
