/- marks, and words that are looked at, and set, at once -/
import Derived.Test.YtnpfbeoibbejeaaIt
namespace Go.Proofs.Ytnpfbeoibbejeaa
set_option linter.unusedVariables false
set_option linter.unusedSimpArgs false
open Go.RowKit

theorem x_disable (w : World) : (callFunc 57 #[]).run Try.prog w = .ok (.value (.tuple #[])) w := run_call_mark0 Try.func57 (by kernel_rfl) (by kernel_rfl) (by kernel_rfl) .disable (by kernel_rfl) w

theorem x_enable (w : World) : (callFunc 59 #[]).run Try.prog w = .ok (.value (.tuple #[])) w := run_call_mark0 Try.func59 (by kernel_rfl) (by kernel_rfl) (by kernel_rfl) .enable (by kernel_rfl) w

theorem x_acquire (b : Addr) (w : World) : (callFunc 60 #[.pointer (some b)]).run Try.prog w = .ok (.value (.tuple #[])) w := run_call_marked Try.func60 (by kernel_rfl) (by kernel_rfl) (by kernel_rfl) .acquire (by kernel_rfl) b w

theorem x_releaseMerge (b : Addr) (w : World) : (callFunc 62 #[.pointer (some b)]).run Try.prog w = .ok (.value (.tuple #[])) w := run_call_marked Try.func62 (by kernel_rfl) (by kernel_rfl) (by kernel_rfl) .releaseMerge (by kernel_rfl) b w

theorem x_cas {b : Addr} {w : World} (hc : w.cell? b = some (.int .i32 0)) (hz : w.frozen? b = false) : (callFunc 58 #[.pointer (some b), .int .i32 0, .int .i32 1]).run Try.prog w = .ok (.value (.bool true)) (w.setCell b (.int .i32 1)) := run_call_cas_hit Try.func58 (by kernel_rfl) (by kernel_rfl) (by kernel_rfl) .i32 (by kernel_rfl) hc hz

theorem x_add {b : Addr} {w : World} (hc : w.cell? b = some (.int .i32 1)) (hz : w.frozen? b = false) : (callFunc 63 #[.pointer (some b), .int .i32 (-1)]).run Try.prog w = .ok (.value (.int .i32 0)) (w.setCell b (.int .i32 0)) := run_call_add Try.func63 (by kernel_rfl) (by kernel_rfl) (by kernel_rfl) .i32 (by kernel_rfl) hc hz (by simp [go_sem]; rfl)

theorem x_load {d : Int} {b : Addr} {w : World} (hc : w.cell? b = some (.int .u32 d)) : (callFunc 49 #[.pointer (some b)]).run Try.prog w = .ok (.value (.int .u32 d)) w := run_call_load Try.func49 (by kernel_rfl) (by kernel_rfl) (by kernel_rfl) .u32 (by kernel_rfl) hc

theorem x_store {u : Value} {b : Addr} {w : World} (hc : w.cell? b = some u) (hz : w.frozen? b = false) : (callFunc 55 #[.pointer (some b), .int .u32 1]).run Try.prog w = .ok (.value (.tuple #[])) (w.setCell b (.int .u32 1)) := run_call_store Try.func55 (by kernel_rfl) (by kernel_rfl) (by kernel_rfl) (by kernel_rfl) hc hz

theorem rep_unit (s : St) : Rep s (.tup []) (.tuple #[]) := Rep.tup (vs := []) rfl fun j d v hj => by simp at hj

set_option maxRecDepth 4000 in
set_option maxHeartbeats 1000000 in
theorem ilock_d (T : TypeId) (d q : Int) (R : List Value) : DFun Try.prog 53 [.loc 0 1] [.flat T (.int .u32 d :: .int .i32 0 :: .int .u32 q :: R)] (.tup []) [.flat T (.int .u32 d :: .int .i32 1 :: .int .u32 q :: R)] := by
  refine dcalls_go (N := 13) 1 (by kernel_rfl) Try.func53 rfl rfl rfl (by simp only [fr0, Nat.zero_add, Nat.reduceAdd]; exact rfl) rfl fun s0 hs0 => ?_
  refine dwp_seq ?_
  refine dwp_region ?_
  refine walk_r rfl rfl rfl (op_mark0 x_disable rfl (ev1 rfl)) ?_
  refine walk_nil ?_
  refine dwp_seq ?_
  refine dwp_seq ?_
  refine dwp_region ?_
  refine walk_r rfl rfl rfl (op_move (.inl rfl) (ev1 rfl)) ?_
  refine walk_r rfl rfl rfl (op_nc rfl (ev1 rfl) (fun s v h => by cases h; exact ⟨_, rfl⟩)) ?_
  refine walk_r rfl rfl rfl (op_fa rfl fo64_0 (ev1 rfl)) ?_
  refine walk_w rfl rfl rfl (op_awr (yv := [.int .i32 0, .int .i32 1]) (p := 1) (fun b w hc hz => x_cas hc hz) (fun _ => .val _) rfl rfl (ev1 rfl) (ev1 rfl) (ec (ev1 rfl) (ec (ev1 rfl) en)) rfl rfl) (by simp only [upd, List.set_cons_zero, List.set_cons_succ]; exact rfl) ?_
  refine walk_nil ?_
  refine dwp_if_t rfl (rfl) ?_
  refine dwp_seq ?_
  refine dwp_if_t rfl (rfl) ?_
  refine dwp_seq ?_
  refine dwp_region ?_
  refine walk_r rfl rfl rfl (op_mark0 x_enable rfl (ev1 rfl)) ?_
  refine walk_nil ?_
  refine dwp_region ?_
  refine walk_r rfl rfl rfl (op_move (.inl rfl) (ev1 rfl)) ?_
  refine walk_r rfl rfl rfl (op_unsafe (fun b w hc => run_convert_to_unsafe Try.underlying96 Try.underlying100 (by kernel_rfl) hc) rfl (ev1 rfl) rfl rfl) ?_
  refine walk_r rfl rfl rfl (op_marked x_acquire rfl (ev1 rfl) (ev1 rfl)) ?_
  refine walk_nil ?_
  refine dwp_ret ?_
  refine kend [0] (res_none rfl) rfl rfl ?_ ⟨rfl, trivial⟩
  rfl

set_option maxRecDepth 4000 in
set_option maxHeartbeats 1000000 in
theorem lock_d (T : TypeId) (d q : Int) (R : List Value) : DFun Try.prog 50 [.loc 0 1] [.flat T (.int .u32 d :: .int .i32 0 :: .int .u32 q :: R)] (.tup []) [.flat T (.int .u32 d :: .int .i32 1 :: .int .u32 q :: R)] := by
  refine dcalls_go (N := 6) 1 (by kernel_rfl) Try.func50 rfl rfl rfl (by simp only [fr0, Nat.zero_add, Nat.reduceAdd]; exact rfl) rfl fun s0 hs0 => ?_
  refine dwp_region ?_
  refine walk_r rfl rfl rfl (op_move (.inl rfl) (ev1 rfl)) ?_
  refine walk_r rfl rfl rfl (op_nc rfl (ev1 rfl) (fun s v h => by cases h; exact ⟨_, rfl⟩)) ?_
  refine walk_r rfl rfl rfl (op_fa rfl fo66_1 (ev1 rfl)) ?_
  refine walk_w rfl rfl rfl (dop_call [0] [] [] rfl (ev1 rfl) (ec (ev1 rfl) en) rfl rfl (ilock_d _ _ _ _) rfl rfl rfl rfl rfl rfl) (by simp only [upd, List.set_cons_zero, List.set_cons_succ]; exact rfl) ?_
  refine walk_nil ?_
  refine kend [0] (res_none rfl) rfl rfl ?_ ⟨rfl, trivial⟩
  rfl

set_option maxRecDepth 4000 in
set_option maxHeartbeats 1000000 in
theorem iunlock_d (T : TypeId) (d q : Int) (R : List Value) : DFun Try.prog 54 [.loc 0 1] [.flat T (.int .u32 d :: .int .i32 1 :: .int .u32 q :: R)] (.tup []) [.flat T (.int .u32 d :: .int .i32 0 :: .int .u32 q :: R)] := by
  refine dcalls_go (N := 21) 1 (by kernel_rfl) Try.func54 rfl rfl rfl (by simp only [fr0, Nat.zero_add, Nat.reduceAdd]; exact rfl) rfl fun s0 hs0 => ?_
  refine dwp_seq ?_
  refine dwp_if_t rfl (rfl) ?_
  refine dwp_seq ?_
  refine dwp_region ?_
  refine walk_r rfl rfl rfl (op_move (.inl rfl) (ev1 rfl)) ?_
  refine walk_r rfl rfl rfl (op_nc rfl (ev1 rfl) (fun s v h => by cases h; exact ⟨_, rfl⟩)) ?_
  refine walk_r rfl rfl rfl (op_fa rfl fo64_0 (ev1 rfl)) ?_
  refine walk_r rfl rfl rfl (op_ldo rfl tb21 (ev1 rfl) rfl rfl) ?_
  refine walk_nil ?_
  refine dwp_seq ?_
  refine dwp_region ?_
  refine walk_r rfl rfl rfl (op_move (.inl rfl) (ev1 rfl)) ?_
  refine walk_r rfl rfl rfl (op_unsafe (fun b w hc => run_convert_to_unsafe Try.underlying96 Try.underlying100 (by kernel_rfl) hc) rfl (ev1 rfl) rfl rfl) ?_
  refine walk_r rfl rfl rfl (op_marked x_releaseMerge rfl (ev1 rfl) (ev1 rfl)) ?_
  refine walk_nil ?_
  refine dwp_region ?_
  refine walk_r rfl rfl rfl (op_mark0 x_disable rfl (ev1 rfl)) ?_
  refine walk_nil ?_
  refine dwp_seq ?_
  refine dwp_region ?_
  refine walk_r rfl rfl rfl (op_move (.inl rfl) (ev1 rfl)) ?_
  refine walk_r rfl rfl rfl (op_nc rfl (ev1 rfl) (fun s v h => by cases h; exact ⟨_, rfl⟩)) ?_
  refine walk_r rfl rfl rfl (op_fa rfl fo64_0 (ev1 rfl)) ?_
  refine walk_w rfl rfl rfl (op_awr (yv := [.int .i32 (-1)]) (p := 1) (fun b w hc hz => x_add hc hz) (fun _ => .val _) rfl rfl (ev1 rfl) (ev1 rfl) (ec (ev1 rfl) en) rfl rfl) (by simp only [upd, List.set_cons_zero, List.set_cons_succ]; exact rfl) ?_
  refine walk_r rfl rfl rfl (op_move (.inr rfl) (ev1 rfl)) ?_
  refine walk_nil ?_
  refine dwp_seq ?_
  refine dwp_seq ?_
  refine dwp_region ?_
  refine walk_r rfl rfl rfl (op_move (.inl rfl) (ev1 rfl)) ?_
  refine walk_r rfl rfl rfl (op_neq rfl (ev1 rfl) (ev1 rfl)) ?_
  refine walk_nil ?_
  refine dwp_if_f rfl (rfl) ?_
  refine dwp_skip ?_
  refine dwp_region ?_
  refine walk_r rfl rfl rfl (op_mark0 x_enable rfl (ev1 rfl)) ?_
  refine walk_nil ?_
  refine kend [0] (res_none rfl) rfl rfl ?_ ⟨rfl, trivial⟩
  rfl

set_option maxRecDepth 4000 in
set_option maxHeartbeats 1000000 in
theorem unlock_dd (T : TypeId) (d q : Int) (R : List Value) : DDef Try.prog 51 [.loc 0 1] [.flat T (.int .u32 d :: .int .i32 1 :: .int .u32 q :: R)] none none [.flat T (.int .u32 d :: .int .i32 0 :: .int .u32 q :: R)] := by
  refine ddef_code (dr := .tup []) (N := 6) 1 (by kernel_rfl) Try.func51 rfl rfl rfl (by simp only [fr0, Nat.zero_add, Nat.reduceAdd]; exact rfl) rfl fun s0 hs0 => ?_
  refine dwp_region ?_
  refine walk_r rfl rfl rfl (op_move (.inl rfl) (ev1 rfl)) ?_
  refine walk_r rfl rfl rfl (op_nc rfl (ev1 rfl) (fun s v h => by cases h; exact ⟨_, rfl⟩)) ?_
  refine walk_r rfl rfl rfl (op_fa rfl fo66_1 (ev1 rfl)) ?_
  refine walk_w rfl rfl rfl (dop_call [0] [] [] rfl (ev1 rfl) (ec (ev1 rfl) en) rfl rfl (iunlock_d _ _ _ _) rfl rfl rfl rfl rfl rfl) (by simp only [upd, List.set_cons_zero, List.set_cons_succ]; exact rfl) ?_
  refine walk_nil ?_
  refine kend [0] (res_none rfl) rfl rfl ?_ ⟨rfl, trivial⟩
  rfl

set_option maxRecDepth 4000 in
set_option maxHeartbeats 1000000 in
theorem bload_d (T : TypeId) (d m q : Int) (R : List Value) : DFun Try.prog 46 [.loc 0 0] [.flat T (.int .u32 d :: .int .i32 m :: .int .u32 q :: R)] (.val (.bool (d != 0))) [.flat T (.int .u32 d :: .int .i32 m :: .int .u32 q :: R)] := by
  refine dcalls_go (N := 8) 1 (by kernel_rfl) Try.func46 rfl rfl rfl (by simp only [fr0, Nat.zero_add, Nat.reduceAdd]; exact rfl) rfl fun s0 hs0 => ?_
  refine dwp_seq ?_
  refine dwp_region ?_
  refine walk_r rfl rfl rfl (op_move (.inr rfl) (ev1 rfl)) ?_
  refine walk_nil ?_
  refine dwp_seq ?_
  refine dwp_region ?_
  refine walk_r rfl rfl rfl (op_move (.inl rfl) (ev1 rfl)) ?_
  refine walk_r rfl rfl rfl (op_nc rfl (ev1 rfl) (fun s v h => by cases h; exact ⟨_, rfl⟩)) ?_
  refine walk_r rfl rfl rfl (op_fa rfl fo62_1 (ev1 rfl)) ?_
  refine walk_r rfl rfl rfl (op_ard (fun b w hc => x_load hc) rfl (ev1 rfl) (ev1 rfl) rfl rfl) ?_
  refine walk_r rfl rfl rfl (op_neq rfl (ev1 rfl) (ev1 rfl)) ?_
  refine walk_r rfl rfl rfl (op_move (.inr rfl) (ev1 rfl)) ?_
  refine walk_nil ?_
  refine dwp_ret ?_
  refine kend [0] (rs1 rfl (rv_t rfl)) rfl rfl ?_ ⟨rfl, trivial⟩
  rfl

set_option maxRecDepth 4000 in
set_option maxHeartbeats 1000000 in
theorem b32_d : DFun Try.prog 56 [.val (.bool true)] [] (.val (.int .u32 1)) [] := by
  refine dcalls_go (N := 4) 0 (by kernel_rfl) Try.func56 rfl rfl rfl (by simp only [fr0, Nat.zero_add, Nat.reduceAdd]; exact rfl) rfl fun s0 hs0 => ?_
  refine dwp_seq ?_
  refine dwp_region ?_
  refine walk_r rfl rfl rfl (op_move (.inr rfl) (ev1 rfl)) ?_
  refine walk_nil ?_
  refine dwp_seq ?_
  refine dwp_seq ?_
  refine dwp_region ?_
  refine walk_r rfl rfl rfl (op_move (.inl rfl) (ev1 rfl)) ?_
  refine walk_nil ?_
  refine dwp_if_t rfl (rfl) ?_
  refine dwp_seq ?_
  refine dwp_region ?_
  refine walk_r rfl rfl rfl (op_move (.inr rfl) (ev1 rfl)) ?_
  refine walk_nil ?_
  refine dwp_ret ?_
  refine kend0 (rs1 rfl (rv_t rfl)) rfl ?_
  rfl

set_option maxRecDepth 4000 in
set_option maxHeartbeats 1000000 in
theorem bstore_dd (T : TypeId) (d m q : Int) (R : List Value) : DDef Try.prog 52 [.loc 0 0, .val (.bool true)] [.flat T (.int .u32 d :: .int .i32 m :: .int .u32 q :: R)] none none [.flat T (.int .u32 1 :: .int .i32 m :: .int .u32 q :: R)] := by
  refine ddef_code (dr := .tup []) (N := 10) 1 (by kernel_rfl) Try.func52 rfl rfl rfl (by simp only [fr0, Nat.zero_add, Nat.reduceAdd]; exact rfl) rfl fun s0 hs0 => ?_
  refine dwp_draw [([], []), ([], []), ([], []), ([], []), ([], []), ([0], [0])] mixed (by kernel_rfl) ?_
  refine lex_r rfl rfl (op_move (.inl rfl) (ev1 rfl)) ?_
  refine lex_r rfl rfl (op_nc rfl (ev1 rfl) (fun s v h => by cases h; exact ⟨_, rfl⟩)) ?_
  refine lex_r rfl rfl (op_fa rfl fo62_1 (ev1 rfl)) ?_
  refine lex_r rfl rfl (op_move (.inl rfl) (ev1 rfl)) ?_
  refine lex_r rfl rfl (dop_call [] [] [] rfl (ev1 rfl) (ec (ev1 rfl) en) rfl rfl (b32_d) rfl rfl rfl rfl rfl rfl) ?_
  refine lex_w rfl rfl (op_awr (yv := [.int .u32 1]) (p := 0) (fun b w hc hz => x_store hc hz) (fun s => rep_unit s) rfl rfl (ev1 rfl) (ev1 rfl) (ec (ev1 rfl) en) rfl rfl) rfl (by simp only [upd, List.set_cons_zero, List.set_cons_succ]; exact rfl) ?_
  refine lex_nil ?_
  refine kend [0] (res_none rfl) rfl rfl ?_ ⟨rfl, trivial⟩
  rfl

end Go.Proofs.Ytnpfbeoibbejeaa
