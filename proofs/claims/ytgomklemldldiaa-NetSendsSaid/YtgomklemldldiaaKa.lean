/- marks, and words that are looked at, and set, at once -/
import Derived.Test.YtgomklemldldiaaIt
import Derived.Test.YtgomklemldldiaaMa
namespace Go.Proofs.Ytgomklemldldiaa
set_option linter.unusedVariables false
set_option linter.unusedSimpArgs false
open Go.RowKit

theorem x_disable (w : World) : (callFunc 94 #[]).run Try.prog w = .ok (.value (.tuple #[])) w := run_call_mark0 Try.func94 (by kernel_rfl) (by kernel_rfl) (by kernel_rfl) .disable (by kernel_rfl) w

theorem x_enable (w : World) : (callFunc 96 #[]).run Try.prog w = .ok (.value (.tuple #[])) w := run_call_mark0 Try.func96 (by kernel_rfl) (by kernel_rfl) (by kernel_rfl) .enable (by kernel_rfl) w

theorem x_acquire (b : Addr) (w : World) : (callFunc 97 #[.pointer (some b)]).run Try.prog w = .ok (.value (.tuple #[])) w := run_call_marked Try.func97 (by kernel_rfl) (by kernel_rfl) (by kernel_rfl) .acquire (by kernel_rfl) b w

theorem x_releaseMerge (b : Addr) (w : World) : (callFunc 99 #[.pointer (some b)]).run Try.prog w = .ok (.value (.tuple #[])) w := run_call_marked Try.func99 (by kernel_rfl) (by kernel_rfl) (by kernel_rfl) .releaseMerge (by kernel_rfl) b w

theorem x_cas {b : Addr} {w : World} (hc : w.cell? b = some (.int .i32 0)) (hz : w.frozen? b = false) : (callFunc 95 #[.pointer (some b), .int .i32 0, .int .i32 1]).run Try.prog w = .ok (.value (.bool true)) (w.setCell b (.int .i32 1)) := run_call_cas_hit Try.func95 (by kernel_rfl) (by kernel_rfl) (by kernel_rfl) .i32 (by kernel_rfl) hc hz

theorem x_add {b : Addr} {w : World} (hc : w.cell? b = some (.int .i32 1)) (hz : w.frozen? b = false) : (callFunc 100 #[.pointer (some b), .int .i32 (-1)]).run Try.prog w = .ok (.value (.int .i32 0)) (w.setCell b (.int .i32 0)) := run_call_add Try.func100 (by kernel_rfl) (by kernel_rfl) (by kernel_rfl) .i32 (by kernel_rfl) hc hz (by simp [go_sem]; rfl)

theorem x_load {d : Int} {b : Addr} {w : World} (hc : w.cell? b = some (.int .u32 d)) : (callFunc 86 #[.pointer (some b)]).run Try.prog w = .ok (.value (.int .u32 d)) w := run_call_load Try.func86 (by kernel_rfl) (by kernel_rfl) (by kernel_rfl) .u32 (by kernel_rfl) hc

theorem x_store {u : Value} {b : Addr} {w : World} (hc : w.cell? b = some u) (hz : w.frozen? b = false) : (callFunc 92 #[.pointer (some b), .int .u32 1]).run Try.prog w = .ok (.value (.tuple #[])) (w.setCell b (.int .u32 1)) := run_call_store Try.func92 (by kernel_rfl) (by kernel_rfl) (by kernel_rfl) (by kernel_rfl) hc hz

theorem rep_unit (s : St) : Rep s (.tup []) (.tuple #[]) := Rep.tup (vs := []) rfl fun j d v hj => by simp at hj

set_option maxRecDepth 4000 in
set_option maxHeartbeats 1000000 in
theorem ilock_d (T : TypeId) (d q : Int) (R : List Value) : DFun Try.prog 90 [.loc 0 1] [.flat T (.int .u32 d :: .int .i32 0 :: .int .u32 q :: R)] (.tup []) [.flat T (.int .u32 d :: .int .i32 1 :: .int .u32 q :: R)] := by
  refine dcalls_go (N := 13) 1 (by kernel_rfl) Try.func90 rfl rfl rfl (by simp only [fr0, Nat.zero_add, Nat.reduceAdd]; exact rfl) rfl fun s0 hs0 => ?_
  refine dwp_seq ?_
  refine dwp_region ?_
  refine walk_r rfl rfl rfl (op_mark0 x_disable rfl (ev1 rfl)) ?_
  refine walk_nil ?_
  refine dwp_seq ?_
  refine dwp_seq ?_
  refine dwp_region ?_
  refine walk_r rfl rfl rfl (op_move (.inl rfl) (ev1 rfl)) ?_
  refine walk_r rfl rfl rfl (op_nc rfl (ev1 rfl) (fun s v h => by cases h; exact ⟨_, rfl⟩)) ?_
  refine walk_r rfl rfl rfl (op_fa rfl fo114_0 (ev1 rfl)) ?_
  refine walk_w rfl rfl rfl (op_awr (yv := [.int .i32 0, .int .i32 1]) (p := 1) (fun b w hc hz => x_cas hc hz) (fun _ => .val _) rfl rfl (ev1 rfl) (ev1 rfl) (ec (ev1 rfl) (ec (ev1 rfl) en)) rfl rfl) (by simp only [upd, List.set_cons_zero, List.set_cons_succ]; exact rfl) ?_
  refine walk_nil ?_
  refine dwp_if_t rfl (rfl) ?_
  refine dwp_seq ?_
  refine dwp_if_t rfl (rfl) ?_
  refine dwp_seq ?_
  refine dwp_region ?_
  refine walk_r rfl rfl rfl (op_mark0 x_enable rfl (ev1 rfl)) ?_
  refine walk_nil ?_
  refine dwp_region ?_
  refine walk_r rfl rfl rfl (op_move (.inl rfl) (ev1 rfl)) ?_
  refine walk_r rfl rfl rfl (op_unsafe (fun b w hc => run_convert_to_unsafe Try.underlying148 Try.underlying152 (by kernel_rfl) hc) rfl (ev1 rfl) rfl rfl) ?_
  refine walk_r rfl rfl rfl (op_marked x_acquire rfl (ev1 rfl) (ev1 rfl)) ?_
  refine walk_nil ?_
  refine dwp_ret ?_
  refine kend [0] (res_none rfl) rfl rfl ?_ ⟨rfl, trivial⟩
  rfl

set_option maxRecDepth 4000 in
set_option maxHeartbeats 1000000 in
theorem lock_d (T : TypeId) (d q : Int) (R : List Value) : DFun Try.prog 87 [.loc 0 1] [.flat T (.int .u32 d :: .int .i32 0 :: .int .u32 q :: R)] (.tup []) [.flat T (.int .u32 d :: .int .i32 1 :: .int .u32 q :: R)] := by
  refine dcalls_go (N := 6) 1 (by kernel_rfl) Try.func87 rfl rfl rfl (by simp only [fr0, Nat.zero_add, Nat.reduceAdd]; exact rfl) rfl fun s0 hs0 => ?_
  refine dwp_region ?_
  refine walk_r rfl rfl rfl (op_move (.inl rfl) (ev1 rfl)) ?_
  refine walk_r rfl rfl rfl (op_nc rfl (ev1 rfl) (fun s v h => by cases h; exact ⟨_, rfl⟩)) ?_
  refine walk_r rfl rfl rfl (op_fa rfl fo116_1 (ev1 rfl)) ?_
  refine walk_w rfl rfl rfl (dop_call [0] [] [] rfl (ev1 rfl) (ec (ev1 rfl) en) rfl rfl (ilock_d _ _ _ _) rfl rfl rfl rfl rfl rfl) (by simp only [upd, List.set_cons_zero, List.set_cons_succ]; exact rfl) ?_
  refine walk_nil ?_
  refine kend [0] (res_none rfl) rfl rfl ?_ ⟨rfl, trivial⟩
  rfl

set_option maxRecDepth 4000 in
set_option maxHeartbeats 1000000 in
theorem iunlock_d (T : TypeId) (d q : Int) (R : List Value) : DFun Try.prog 91 [.loc 0 1] [.flat T (.int .u32 d :: .int .i32 1 :: .int .u32 q :: R)] (.tup []) [.flat T (.int .u32 d :: .int .i32 0 :: .int .u32 q :: R)] := by
  refine dcalls_go (N := 21) 1 (by kernel_rfl) Try.func91 rfl rfl rfl (by simp only [fr0, Nat.zero_add, Nat.reduceAdd]; exact rfl) rfl fun s0 hs0 => ?_
  refine dwp_seq ?_
  refine dwp_if_t rfl (rfl) ?_
  refine dwp_seq ?_
  refine dwp_region ?_
  refine walk_r rfl rfl rfl (op_move (.inl rfl) (ev1 rfl)) ?_
  refine walk_r rfl rfl rfl (op_nc rfl (ev1 rfl) (fun s v h => by cases h; exact ⟨_, rfl⟩)) ?_
  refine walk_r rfl rfl rfl (op_fa rfl fo114_0 (ev1 rfl)) ?_
  refine walk_r rfl rfl rfl (op_ldo rfl tb21 (ev1 rfl) rfl rfl) ?_
  refine walk_nil ?_
  refine dwp_seq ?_
  refine dwp_region ?_
  refine walk_r rfl rfl rfl (op_move (.inl rfl) (ev1 rfl)) ?_
  refine walk_r rfl rfl rfl (op_unsafe (fun b w hc => run_convert_to_unsafe Try.underlying148 Try.underlying152 (by kernel_rfl) hc) rfl (ev1 rfl) rfl rfl) ?_
  refine walk_r rfl rfl rfl (op_marked x_releaseMerge rfl (ev1 rfl) (ev1 rfl)) ?_
  refine walk_nil ?_
  refine dwp_region ?_
  refine walk_r rfl rfl rfl (op_mark0 x_disable rfl (ev1 rfl)) ?_
  refine walk_nil ?_
  refine dwp_seq ?_
  refine dwp_region ?_
  refine walk_r rfl rfl rfl (op_move (.inl rfl) (ev1 rfl)) ?_
  refine walk_r rfl rfl rfl (op_nc rfl (ev1 rfl) (fun s v h => by cases h; exact ⟨_, rfl⟩)) ?_
  refine walk_r rfl rfl rfl (op_fa rfl fo114_0 (ev1 rfl)) ?_
  refine walk_w rfl rfl rfl (op_awr (yv := [.int .i32 (-1)]) (p := 1) (fun b w hc hz => x_add hc hz) (fun _ => .val _) rfl rfl (ev1 rfl) (ev1 rfl) (ec (ev1 rfl) en) rfl rfl) (by simp only [upd, List.set_cons_zero, List.set_cons_succ]; exact rfl) ?_
  refine walk_r rfl rfl rfl (op_move (.inr rfl) (ev1 rfl)) ?_
  refine walk_nil ?_
  refine dwp_seq ?_
  refine dwp_seq ?_
  refine dwp_region ?_
  refine walk_r rfl rfl rfl (op_move (.inl rfl) (ev1 rfl)) ?_
  refine walk_r rfl rfl rfl (op_neq rfl (ev1 rfl) (ev1 rfl)) ?_
  refine walk_nil ?_
  refine dwp_if_f rfl (rfl) ?_
  refine dwp_skip ?_
  refine dwp_region ?_
  refine walk_r rfl rfl rfl (op_mark0 x_enable rfl (ev1 rfl)) ?_
  refine walk_nil ?_
  refine kend [0] (res_none rfl) rfl rfl ?_ ⟨rfl, trivial⟩
  rfl

set_option maxRecDepth 4000 in
set_option maxHeartbeats 1000000 in
theorem unlock_dd (T : TypeId) (d q : Int) (R : List Value) : DDef Try.prog 88 [.loc 0 1] [.flat T (.int .u32 d :: .int .i32 1 :: .int .u32 q :: R)] none none [.flat T (.int .u32 d :: .int .i32 0 :: .int .u32 q :: R)] := by
  refine ddef_code (dr := .tup []) (N := 6) 1 (by kernel_rfl) Try.func88 rfl rfl rfl (by simp only [fr0, Nat.zero_add, Nat.reduceAdd]; exact rfl) rfl fun s0 hs0 => ?_
  refine dwp_region ?_
  refine walk_r rfl rfl rfl (op_move (.inl rfl) (ev1 rfl)) ?_
  refine walk_r rfl rfl rfl (op_nc rfl (ev1 rfl) (fun s v h => by cases h; exact ⟨_, rfl⟩)) ?_
  refine walk_r rfl rfl rfl (op_fa rfl fo116_1 (ev1 rfl)) ?_
  refine walk_w rfl rfl rfl (dop_call [0] [] [] rfl (ev1 rfl) (ec (ev1 rfl) en) rfl rfl (iunlock_d _ _ _ _) rfl rfl rfl rfl rfl rfl) (by simp only [upd, List.set_cons_zero, List.set_cons_succ]; exact rfl) ?_
  refine walk_nil ?_
  refine kend [0] (res_none rfl) rfl rfl ?_ ⟨rfl, trivial⟩
  rfl

set_option maxRecDepth 4000 in
set_option maxHeartbeats 1000000 in
theorem bload_d (T : TypeId) (d m q : Int) (R : List Value) : DFun Try.prog 83 [.loc 0 0] [.flat T (.int .u32 d :: .int .i32 m :: .int .u32 q :: R)] (.val (.bool (d != 0))) [.flat T (.int .u32 d :: .int .i32 m :: .int .u32 q :: R)] := by
  refine dcalls_go (N := 8) 1 (by kernel_rfl) Try.func83 rfl rfl rfl (by simp only [fr0, Nat.zero_add, Nat.reduceAdd]; exact rfl) rfl fun s0 hs0 => ?_
  refine dwp_seq ?_
  refine dwp_region ?_
  refine walk_r rfl rfl rfl (op_move (.inr rfl) (ev1 rfl)) ?_
  refine walk_nil ?_
  refine dwp_seq ?_
  refine dwp_region ?_
  refine walk_r rfl rfl rfl (op_move (.inl rfl) (ev1 rfl)) ?_
  refine walk_r rfl rfl rfl (op_nc rfl (ev1 rfl) (fun s v h => by cases h; exact ⟨_, rfl⟩)) ?_
  refine walk_r rfl rfl rfl (op_fa rfl fo112_1 (ev1 rfl)) ?_
  refine walk_r rfl rfl rfl (op_ard (fun b w hc => x_load hc) rfl (ev1 rfl) (ev1 rfl) rfl rfl) ?_
  refine walk_r rfl rfl rfl (op_neq rfl (ev1 rfl) (ev1 rfl)) ?_
  refine walk_r rfl rfl rfl (op_move (.inr rfl) (ev1 rfl)) ?_
  refine walk_nil ?_
  refine dwp_ret ?_
  refine kend [0] (rs1 rfl (rv_t rfl)) rfl rfl ?_ ⟨rfl, trivial⟩
  rfl

set_option maxRecDepth 4000 in
set_option maxHeartbeats 1000000 in
theorem b32_d : DFun Try.prog 93 [.val (.bool true)] [] (.val (.int .u32 1)) [] := by
  refine dcalls_go (N := 4) 0 (by kernel_rfl) Try.func93 rfl rfl rfl (by simp only [fr0, Nat.zero_add, Nat.reduceAdd]; exact rfl) rfl fun s0 hs0 => ?_
  refine dwp_seq ?_
  refine dwp_region ?_
  refine walk_r rfl rfl rfl (op_move (.inr rfl) (ev1 rfl)) ?_
  refine walk_nil ?_
  refine dwp_seq ?_
  refine dwp_seq ?_
  refine dwp_region ?_
  refine walk_r rfl rfl rfl (op_move (.inl rfl) (ev1 rfl)) ?_
  refine walk_nil ?_
  refine dwp_if_t rfl (rfl) ?_
  refine dwp_seq ?_
  refine dwp_region ?_
  refine walk_r rfl rfl rfl (op_move (.inr rfl) (ev1 rfl)) ?_
  refine walk_nil ?_
  refine dwp_ret ?_
  refine kend0 (rs1 rfl (rv_t rfl)) rfl ?_
  rfl

set_option maxRecDepth 4000 in
set_option maxHeartbeats 1000000 in
theorem bstore_dd (T : TypeId) (d m q : Int) (R : List Value) : DDef Try.prog 89 [.loc 0 0, .val (.bool true)] [.flat T (.int .u32 d :: .int .i32 m :: .int .u32 q :: R)] none none [.flat T (.int .u32 1 :: .int .i32 m :: .int .u32 q :: R)] := by
  refine ddef_code (dr := .tup []) (N := 10) 1 (by kernel_rfl) Try.func89 rfl rfl rfl (by simp only [fr0, Nat.zero_add, Nat.reduceAdd]; exact rfl) rfl fun s0 hs0 => ?_
  refine dwp_draw [([], []), ([], []), ([], []), ([], []), ([], []), ([0], [0])] mixed (by kernel_rfl) ?_
  refine lex_r rfl rfl (op_move (.inl rfl) (ev1 rfl)) ?_
  refine lex_r rfl rfl (op_nc rfl (ev1 rfl) (fun s v h => by cases h; exact ⟨_, rfl⟩)) ?_
  refine lex_r rfl rfl (op_fa rfl fo112_1 (ev1 rfl)) ?_
  refine lex_r rfl rfl (op_move (.inl rfl) (ev1 rfl)) ?_
  refine lex_r rfl rfl (dop_call [] [] [] rfl (ev1 rfl) (ec (ev1 rfl) en) rfl rfl (b32_d) rfl rfl rfl rfl rfl rfl) ?_
  refine lex_w rfl rfl (op_awr (yv := [.int .u32 1]) (p := 0) (fun b w hc hz => x_store hc hz) (fun s => rep_unit s) rfl rfl (ev1 rfl) (ev1 rfl) (ec (ev1 rfl) en) rfl rfl) rfl (by simp only [upd, List.set_cons_zero, List.set_cons_succ]; exact rfl) ?_
  refine lex_nil ?_
  refine kend [0] (res_none rfl) rfl rfl ?_ ⟨rfl, trivial⟩
  rfl

def f1 : Nat → List Nat
  | 0 => List.replicate 256 0
  | k + 1 => (f1 k).set (128 >>> k) (Zs (k + 1) 1)
theorem f1_len : ∀ k, (f1 k).length = 256
  | 0 => by rw [f1, List.length_replicate]
  | k + 1 => by rw [f1, List.length_set, f1_len k]
theorem mem_set {l : List Nat} {i n x : Nat} (h : x ∈ l.set i n) : x ∈ l ∨ x = n := by
  rw [List.mem_iff_getElem?] at h
  obtain ⟨j, hj⟩ := h
  rw [List.getElem?_set] at hj
  split at hj
  · split at hj
    · exact .inr (Option.some.inj hj).symm
    · cases hj
  · exact .inl (List.mem_of_getElem? hj)
theorem f1_lt : ∀ k, ∀ x ∈ f1 k, x < 2 ^ 32
  | 0, x, h => by rw [f1, List.mem_replicate] at h; omega
  | k + 1, x, h => by
    rw [f1] at h
    rcases mem_set h with h | rfl
    · exact f1_lt k x h
    · exact Zs_lt _ (by decide)
def lowB (b : Nat) : Nat := (andZ .i64 (b : Int) (IntKind.i64.wrap (0 - (b : Int)))).toNat
def offB (b : Nat) : Nat := (xorZ .i64 (b : Int) (lowB b : Int)).toNat
def powB (n : Nat) : Bool := n == 1 || n == 2 || n == 4 || n == 8 || n == 16 || n == 32 || n == 64 || n == 128
theorem bits_ok : (List.range 256).all (fun b => decide (andZ .i64 (b : Int) (IntKind.i64.wrap (0 - (b : Int))) = (lowB b : Int)) && Nat.blt (lowB b) 256 && decide (xorZ .i64 (b : Int) (lowB b : Int) = (offB b : Int)) && Nat.blt (offB b) 256 && Nat.beq (lowB b ^^^ offB b) b && (Nat.beq b 0 || powB (lowB b)) && Nat.ble (lowB b) b && (Nat.beq b 0 || Nat.blt (offB b) b)) = true := by kernel_rfl
theorem bits_at {b : Nat} (h : b < 256) : andZ .i64 (b : Int) (IntKind.i64.wrap (0 - (b : Int))) = (lowB b : Int) ∧ lowB b < 256 ∧ xorZ .i64 (b : Int) (lowB b : Int) = (offB b : Int) ∧ offB b < 256 ∧ lowB b ^^^ offB b = b ∧ (b = 0 ∨ powB (lowB b) = true) ∧ (b = 0 ∨ offB b < b) := by
  have h1 := List.all_eq_true.1 bits_ok b (List.mem_range.2 h)
  simp only [Bool.and_eq_true, decide_eq_true_eq, Bool.or_eq_true] at h1
  obtain ⟨⟨⟨⟨⟨⟨⟨q1, q2⟩, q3⟩, q4⟩, q5⟩, q6⟩, q7⟩, q8⟩ := h1
  exact ⟨q1, Nat.blt_eq.mp q2, q3, Nat.blt_eq.mp q4, Nat.eq_of_beq_eq_true q5, q6.imp (fun h => Nat.eq_of_beq_eq_true h) id, q8.imp (fun h => Nat.eq_of_beq_eq_true h) (fun h => Nat.blt_eq.mp h)⟩
def f2 : Nat → List Nat
  | 0 => f1 8
  | b + 1 => (f2 b).set b ((f2 b).getD (lowB b) 0 ^^^ (f2 b).getD (offB b) 0)
theorem f2_len : ∀ k, (f2 k).length = 256
  | 0 => f1_len 8
  | k + 1 => by rw [f2, List.length_set, f2_len k]
theorem getD_lt {l : List Nat} (h : ∀ x ∈ l, x < 2 ^ 32) (i : Nat) : l.getD i 0 < 2 ^ 32 := by
  rw [List.getD_eq_getElem?_getD]
  cases e : l[i]? with
  | none => simp
  | some x => exact h x (List.mem_of_getElem? e)
theorem f2_lt : ∀ k, ∀ x ∈ f2 k, x < 2 ^ 32
  | 0, x, h => f1_lt 8 x h
  | k + 1, x, h => by
    rw [f2] at h
    rcases mem_set h with h | rfl
    · exact f2_lt k x h
    · exact Nat.xor_lt_two_pow (getD_lt (f2_lt k) _) (getD_lt (f2_lt k) _)
theorem f1_pow {n : Nat} (h : powB n = true) : (f1 8).getD n 0 = Zs 8 n := by
  simp only [powB, Bool.or_eq_true, beq_iff_eq] at h
  rcases h with ((((((rfl | rfl) | rfl) | rfl) | rfl) | rfl) | rfl) | rfl <;> kernel_rfl
theorem pow_lt {n : Nat} (h : powB n = true) : n < 256 ∧ 0 < n := by
  simp only [powB, Bool.or_eq_true, beq_iff_eq] at h
  omega
theorem f2_at : ∀ b, b ≤ 256 → (∀ j, j < b → (f2 b).getD j 0 = Zs 8 j) ∧ ∀ n, powB n = true → (f2 b).getD n 0 = Zs 8 n
  | 0, _ => ⟨fun j h => absurd h (by omega), fun n h => f1_pow h⟩
  | b + 1, hb => by
    obtain ⟨h1, h2⟩ := f2_at b (by omega)
    obtain ⟨_, q2, _, q4, q5, q6, q7⟩ := bits_at (show b < 256 by omega)
    have key : (f2 b).getD (lowB b) 0 ^^^ (f2 b).getD (offB b) 0 = Zs 8 b := by
      rcases Nat.eq_zero_or_pos b with rfl | hp
      · rw [show lowB 0 = 0 by kernel_rfl, show offB 0 = 0 by kernel_rfl, Nat.xor_self, Zs_zero]
      · have hpw := q6.resolve_left (by omega)
        have hof := q7.resolve_left (by omega)
        rw [h2 _ hpw, h1 _ hof, ← Zs_xor, q5]
    have set_get : ∀ j, (f2 (b + 1)).getD j 0 = if b = j then Zs 8 b else (f2 b).getD j 0 := by
      intro j
      rw [f2, key, List.getD_eq_getElem?_getD, List.getElem?_set]
      by_cases e : b = j
      · rw [if_pos e, if_pos e, if_pos (by rw [f2_len]; omega)]; rfl
      · rw [if_neg e, if_neg e, List.getD_eq_getElem?_getD]
    refine ⟨fun j hj => ?_, fun n hn => ?_⟩
    · rw [set_get]
      split
      · rename_i e; rw [e]
      · exact h1 j (by omega)
    · rw [set_get]
      split
      · rename_i e; rw [e]
      · exact h2 n hn
def tabW : List Nat := f2 256
theorem tabW_at {x : Nat} (h : x < 256) : tabW.getD x 0 = Zs 8 x := (f2_at 256 (Nat.le_refl _)).1 x h
theorem tabW_len : tabW.length = 256 := f2_len 256
theorem tabW_lt : ∀ x ∈ tabW, x < 2 ^ 32 := f2_lt 256

section
variable {P : Program} {pc : Bool} {o : Oper} {F : Fr} {M : List Blk}
theorem op_wix {T : TypeId} {x y : Operand} {k : IntKind} {z : Int} {i : Nat} (j : Nat) (ho : o.op = .indexAddr T x y) (hT : arE P T = some (256, 1)) (hx : Ev pc F x (.loc i 3)) (hy : Ev pc F y (.val (.int k z))) (hz : pc = true → z = (j : Int)) (hj : pc = true → j < 256) : DOp P pc o F M [] (.loc i (3 + j)) [] := fun hp => by
  have h := op_ixl (M := M) ho hT hx hy (fun hp => by have := hz hp; have := hj hp; omega) hp
  rwa [Nat.mul_one, show z.toNat = j by have := hz hp; omega] at h
theorem tw_at {a b c : Value} {ws : List Nat} {R : List Value} {j : Nat} (h : j < ws.length) : (a :: b :: c :: (ws.map u32v ++ R))[3 + j]? = some (u32v (ws.getD j 0)) := by
  rw [Nat.add_comm, List.getElem?_cons_succ, List.getElem?_cons_succ, List.getElem?_cons_succ, List.getElem?_append_left (by simpa using h), List.getElem?_map, List.getD_eq_getElem?_getD, List.getElem?_eq_getElem h]
  rfl
theorem op_wld {T T' : TypeId} {x : Operand} {i j : Nat} {a b c : Value} {ws : List Nat} {R : List Value} (ho : o.op = .load T x) (hT : tyB P T = some (false, 1)) (hx : Ev pc F x (.loc i (3 + j))) (hM : M[i]? = some (.flat T' (a :: b :: c :: (ws.map u32v ++ R)))) (hj : pc = true → j < ws.length) : DOp P pc o F M [i] (.val (.int .u32 ((ws.getD j 0 : Nat) : Int))) [] := fun hp =>
  op_ldo ho hT hx hM (tw_at (hj hp)) hp
theorem op_wst {T T' : TypeId} {rw' : Bool} {x y : Operand} {i j n : Nat} {a b c : Value} {ws : List Nat} {R : List Value} (ho : o.op = .store T x y) (hT : tyB P T = some (rw', 1)) (hx : Ev pc F x (.loc i (3 + j))) (hy : Ev pc F y (.val (.int .u32 (n : Int)))) (hM : M[i]? = some (.flat T' (a :: b :: c :: (ws.map u32v ++ R)))) (hj : pc = true → j < ws.length) : DOp P pc o F M [i] .junk [(i, .flat T' (a :: b :: c :: ((ws.set j n).map u32v ++ R)))] := fun hp => by
  have h := hj hp
  refine op_st1 ho hT hx hy hM (by simp; omega) ?_ hp
  rw [Nat.add_comm, List.set_cons_succ, List.set_cons_succ, List.set_cons_succ, List.set_append, if_pos (by simpa using h), List.map_set]
  rfl
end
theorem feed_eq {r b : Nat} (hr : r < 2 ^ 32) (hb : b < 256) : (r >>> 8) ^^^ tabW.getD ((r % 256) ^^^ b) 0 = Zs 8 (r ^^^ b) := by
  have h1 : r % 256 < 2 ^ 8 := by omega
  have h2 : (r % 256) ^^^ b < 256 := Nat.xor_lt_two_pow (n := 8) h1 (by omega)
  have e : r = (r % 256) ^^^ ((r >>> 8) <<< 8) := by
    rw [low_xor (by omega), Nat.shiftRight_eq_div_pow]
    omega
  rw [tabW_at h2]
  conv => rhs; rw [e]
  have e2 : (r % 256 ^^^ (r >>> 8) <<< 8) ^^^ b = (r % 256 ^^^ b) ^^^ ((r >>> 8) <<< 8) := by
    rw [Nat.xor_assoc, Nat.xor_comm ((r >>> 8) <<< 8), ← Nat.xor_assoc]
  rw [e2, Zs_xor 8 (r % 256 ^^^ b) ((r >>> 8) <<< 8), Zs_shl, Nat.xor_comm]
theorem xor_b {a b : Nat} (ha : a < 256) (hb : b < 256) : xorZ .u8 (a : Int) (b : Int) = ((a ^^^ b : Nat) : Int) := by
  have e : (BitVec.ofInt 8 (a : Int) ^^^ BitVec.ofInt 8 (b : Int)).toNat = a ^^^ b := by
    rw [BitVec.ofInt_natCast, BitVec.ofInt_natCast, BitVec.toNat_xor, BitVec.toNat_ofNat, BitVec.toNat_ofNat, Nat.mod_eq_of_lt ha, Nat.mod_eq_of_lt hb]
  have h := Nat.xor_lt_two_pow (n := 8) ha hb
  show IntKind.u8.wrap (((BitVec.ofInt 8 (a : Int) ^^^ BitVec.ofInt 8 (b : Int)).toNat : Nat) : Int) = _
  rw [e]
  exact IntWalk.u8_in _ (by omega)
def regB (n bits : Nat) : List Value := match n with
  | 0 => regL 0 (List.replicate 256 0) bits
  | _ + 1 => regL 1 tabW bits
section
variable {P : Program} {pc : Bool} {o : Oper} {F : Fr} {M : List Blk}
theorem bits_pos {a b c v : Value} {ws : List Nat} (h : ws.length = 256) : (a :: b :: c :: (ws.map u32v ++ [v]))[259]? = some v := by
  show (ws.map u32v ++ [v])[256]? = some v
  rw [List.getElem?_append_right (by simp [h])]
  simp [h]
theorem op_bits {T T' : TypeId} {x : Operand} {i : Nat} {a b c v : Value} {ws : List Nat} (h : ws.length = 256) (ho : o.op = .load T x) (hT : tyB P T = some (false, 1)) (hx : Ev pc F x (.loc i 259)) (hM : M[i]? = some (.flat T' (a :: b :: c :: (ws.map u32v ++ [v])))) : DOp P pc o F M [i] (.val v) [] :=
  op_ldo ho hT hx hM (bits_pos h)
theorem op_reg {T T' : TypeId} {x : Operand} {i n bits : Nat} (ho : o.op = .load T x) (hT : tyB P T = some (false, 1)) (hx : Ev pc F x (.loc i 259)) (hM : M[i]? = some (.flat T' (regB n bits))) : DOp P pc o F M [i] (.val (.int .u32 (bits : Int))) [] := by
  cases n with
  | zero => exact op_bits (by rw [List.length_replicate]) ho hT hx hM
  | succ n => exact op_bits tabW_len ho hT hx hM
theorem op_bst {T T' : TypeId} {rw' : Bool} {x y : Operand} {i : Nat} {n : Int} {a b c v : Value} {ws : List Nat} (h : ws.length = 256) (ho : o.op = .store T x y) (hT : tyB P T = some (rw', 1)) (hx : Ev pc F x (.loc i 259)) (hy : Ev pc F y (.val (.int .u32 n))) (hM : M[i]? = some (.flat T' (a :: b :: c :: (ws.map u32v ++ [v])))) : DOp P pc o F M [i] .junk [(i, .flat T' (a :: b :: c :: (ws.map u32v ++ [.int .u32 n])))] := by
  refine op_st1 ho hT hx hy hM (by simp [h]) ?_
  show a :: b :: c :: ((ws.map u32v ++ [v]).set 256 (.int .u32 n)) = _
  rw [List.set_append, if_neg (by simp [h])]
  simp [h]
end

set_option maxRecDepth 4000 in
set_option maxHeartbeats 1000000 in
theorem halved_d (n : Nat) (hn : n < 2 ^ 32) : DFun Try.prog 85 [.val (.int .u32 (n : Int))] [] (.val (.int .u32 (Zr n : Nat))) [] := by
  refine dcalls_go (N := 11) 0 (by kernel_rfl) Try.func85 rfl rfl rfl (by simp only [fr0, Nat.zero_add, Nat.reduceAdd]; exact rfl) rfl fun s0 hs0 => ?_
  refine dwp_seq ?_
  refine dwp_region ?_
  refine walk_r rfl rfl rfl (op_move (.inr rfl) (ev1 rfl)) ?_
  refine walk_nil ?_
  refine dwp_seq ?_
  refine dwp_seq ?_
  refine dwp_region ?_
  refine walk_r rfl rfl rfl (op_move (.inl rfl) (ev1 rfl)) ?_
  refine walk_r rfl rfl rfl (op_iand rfl (ev1 rfl) (ev1 rfl)) ?_
  refine walk_r rfl rfl rfl (op_eql rfl (ev1 rfl) (ev1 rfl)) ?_
  refine walk_nil ?_
  refine dwp_cond rfl (fun h => ?_) (fun h => ?_)
  · have h1 : n % 2 = 1 := by rw [and_one hn] at h; have := of_decide_eq_true h; omega
    refine dwp_seq ?_
    refine dwp_region ?_
    refine walk_r rfl rfl rfl (op_move (.inl rfl) (ev1 rfl)) ?_
    refine walk_r rfl rfl rfl (op_shr (1) rfl (ev1 rfl) (ev1 rfl) (fun hp => by first | exact ⟨by omega, by decide⟩ | (simp [IntKind.bits]; omega))) ?_
    refine walk_r rfl rfl rfl (op_ixor rfl (ev1 rfl) (ev1 rfl)) ?_
    refine walk_r rfl rfl rfl (op_move (.inr rfl) (ev1 rfl)) ?_
    refine walk_nil ?_
    refine dwp_ret ?_
    refine kend0 (rs1 rfl (rv_t rfl)) rfl ?_
    rw [halved_t hn h1]
  · have h1 : ¬ n % 2 = 1 := by rw [and_one hn] at h; have := of_decide_eq_false h; omega
    refine dwp_skip ?_
    refine dwp_seq ?_
    refine dwp_region ?_
    refine walk_r rfl rfl rfl (op_move (.inl rfl) (ev1 rfl)) ?_
    refine walk_r rfl rfl rfl (op_shr (1) rfl (ev1 rfl) (ev1 rfl) (fun hp => by first | exact ⟨by omega, by decide⟩ | (simp [IntKind.bits]; omega))) ?_
    refine walk_r rfl rfl rfl (op_move (.inr rfl) (ev1 rfl)) ?_
    refine walk_nil ?_
    refine dwp_ret ?_
    refine kend0 (rs1 rfl (rv_t rfl)) rfl ?_
    rw [halved_f h1]

set_option maxRecDepth 4000 in
set_option maxHeartbeats 1000000 in
theorem fill_d (T : TypeId) (d m q : Int) (R : List Value) : DFun Try.prog 82 [.loc 0 0] [.flat T (.int .u32 d :: .int .i32 m :: .int .u32 q :: (List.replicate 256 0).map u32v ++ R)] (.tup []) [.flat T (.int .u32 d :: .int .i32 m :: .int .u32 q :: (tabW).map u32v ++ R)] := by
  refine dcalls_go (N := 47) 1 (by kernel_rfl) Try.func82 rfl rfl rfl (by simp only [fr0, Nat.zero_add, Nat.reduceAdd]; exact rfl) rfl fun s0 hs0 => ?_
  refine dwp_seq ?_
  refine dwp_region ?_
  refine walk_r rfl rfl rfl (op_move (.inr rfl) (ev1 rfl)) ?_
  refine walk_nil ?_
  refine dwp_seq ?_
  refine dwp_seq ?_
  refine dwp_region ?_
  refine walk_r rfl rfl rfl (op_move (.inl rfl) (ev1 rfl)) ?_
  refine walk_nil ?_
  refine dwp_block ?_
  refine dwp_loopS ⟨hs0, rfl⟩ (α := Nat) (fun k => [(2, .val (.int .u32 (Zs k 1 : Nat))), (6, .val (.int .i64 (k : Int)))]) [(0, _)] (fun k => [(0, .flat T (.int .u32 d :: .int .i32 m :: .int .u32 q :: (f1 k).map u32v ++ R))]) [.hole] (fun k => k ≤ 8) (fun k => 8 - k) 0 [0] (by simp) rfl ⟨rfl, trivial⟩ ⟨rfl, rfl, trivial⟩ ⟨rfl, trivial⟩ ?_
  intro k hx
  simp only [upd, List.set_cons_zero, List.set_cons_succ, List.cons_append, List.nil_append]
  have hk := hx
  have hlen := f1_len k
  have hzl : Zs k 1 < 2 ^ 32 := Zs_lt k (by decide)
  refine dwp_seq ?_
  refine dwp_region ?_
  refine walk_r rfl rfl rfl (op_lss rfl (ev1 rfl) (ev1 rfl)) ?_
  refine walk_nil ?_
  refine dwp_seq ?_
  refine dwp_cond rfl (fun c1 => ?_) (fun c1 => ?_)
  · try simp only [decide_eq_true_eq, decide_eq_false_iff_not, beq_iff_eq, bne_iff_ne, beq_eq_false_iff_ne, bne_eq_false_iff_eq, Bool.not_eq_true', Bool.not_eq_false', Bool.and_eq_true, Bool.or_eq_true, Bool.or_eq_false_iff, ne_eq, Decidable.not_not, Int.not_lt, Int.not_le] at c1
    refine dwp_skip ?_
    refine dwp_seq ?_
    refine dwp_block ?_
    refine dwp_seq ?_
    refine dwp_region ?_
    refine walk_r rfl rfl rfl (op_move (.inl rfl) (ev1 rfl)) ?_
    refine walk_r rfl rfl rfl (op_move (.inr rfl) (ev1 rfl)) ?_
    refine walk_nil ?_
    refine dwp_seq ?_
    refine dwp_region ?_
    refine walk_r rfl rfl rfl (op_move (.inl rfl) (ev1 rfl)) ?_
    refine walk_r rfl rfl rfl (dop_call [] [] [] rfl (ev1 rfl) (ec (ev1 rfl) en) rfl rfl (halved_d (Zs k 1) hzl) rfl rfl rfl rfl rfl rfl) ?_
    refine walk_r rfl rfl rfl (op_move (.inr rfl) (ev1 rfl)) ?_
    refine walk_nil ?_
    refine dwp_draw [([], []), ([], []), ([], []), ([], []), ([], []), ([], []), ([], []), ([0], [0])] mixed (by kernel_rfl) ?_
    refine lex_r rfl rfl (op_move (.inl rfl) (ev1 rfl)) ?_
    refine lex_r rfl rfl (op_move (.inl rfl) (ev1 rfl)) ?_
    refine lex_r rfl rfl (op_shr (k) rfl (ev1 rfl) (ev1 rfl) (fun hp => by first | exact ⟨by omega, by decide⟩ | (simp [IntKind.bits]; omega))) ?_
    refine lex_r rfl rfl (op_move (.inl rfl) (ev1 rfl)) ?_
    refine lex_r rfl rfl (op_nc rfl (ev1 rfl) (fun s v h => by cases h; exact ⟨_, rfl⟩)) ?_
    refine lex_r rfl rfl (op_fa rfl fo121_1 (ev1 rfl)) ?_
    refine lex_r rfl rfl (op_wix (128 >>> k) rfl ar119 (ev1 rfl) (ev1 rfl) (fun _ => shr_n 128 k) (fun _ => by rw [Nat.shiftRight_eq_div_pow]; exact Nat.lt_of_le_of_lt (Nat.div_le_self _ _) (by decide))) ?_
    refine lex_s rfl rfl (op_wst rfl tb47 (ev1 rfl) (ev1 rfl) rfl (fun _ => by rw [hlen, Nat.shiftRight_eq_div_pow]; exact Nat.lt_of_le_of_lt (Nat.div_le_self _ _) (by decide))) rfl (by simp only [upd, List.set_cons_zero, List.set_cons_succ]; exact rfl) ?_
    refine lex_nil ?_
    refine dwp_region ?_
    refine walk_r rfl rfl rfl (op_add' rfl (ev1 rfl) (ev1 rfl) (fun _ => IntWalk.i64_in _ (by omega))) ?_
    refine walk_r rfl rfl rfl (op_move (.inl rfl) (ev1 rfl)) ?_
    refine walk_nil ?_
    refine ⟨k + 1, [0], by omega, by simp only []; omega, rfl, ⟨by rw [Zs_succ]; rfl, rfl, rfl, trivial⟩, ⟨by rw [f1, Zs_succ]; rfl, trivial⟩⟩
  · try simp only [decide_eq_true_eq, decide_eq_false_iff_not, beq_iff_eq, bne_iff_ne, beq_eq_false_iff_ne, bne_eq_false_iff_eq, Bool.not_eq_true', Bool.not_eq_false', Bool.and_eq_true, Bool.or_eq_true, Bool.or_eq_false_iff, ne_eq, Decidable.not_not, Int.not_lt, Int.not_le] at c1
    refine dwp_exit ?_
    refine dwp_seq ?_
    obtain rfl : k = 8 := by omega
    refine dwp_region ?_
    refine walk_r rfl rfl rfl (op_move (.inl rfl) (ev1 rfl)) ?_
    refine walk_nil ?_
    refine dwp_block ?_
    refine dwp_loopS ⟨hs0, rfl⟩ (α := Nat) (fun b => [(19, .val (.int .i64 (b : Int)))]) [(0, _)] (fun b => [(0, .flat T (.int .u32 d :: .int .i32 m :: .int .u32 q :: (f2 b).map u32v ++ R))]) [.hole] (fun b => b ≤ 256) (fun b => 256 - b) 0 [0] (by simp) rfl ⟨rfl, trivial⟩ ⟨rfl, trivial⟩ ⟨rfl, trivial⟩ ?_
    intro b hx
    simp only [upd, List.set_cons_zero, List.set_cons_succ, List.cons_append, List.nil_append]
    have hk := hx
    have hlen := f2_len b
    refine dwp_seq ?_
    refine dwp_region ?_
    refine walk_r rfl rfl rfl (op_lss rfl (ev1 rfl) (ev1 rfl)) ?_
    refine walk_nil ?_
    refine dwp_seq ?_
    refine dwp_cond rfl (fun c2 => ?_) (fun c2 => ?_)
    · try simp only [decide_eq_true_eq, decide_eq_false_iff_not, beq_iff_eq, bne_iff_ne, beq_eq_false_iff_ne, bne_eq_false_iff_eq, Bool.not_eq_true', Bool.not_eq_false', Bool.and_eq_true, Bool.or_eq_true, Bool.or_eq_false_iff, ne_eq, Decidable.not_not, Int.not_lt, Int.not_le] at c2
      refine dwp_skip ?_
      refine dwp_seq ?_
      refine dwp_block ?_
      refine dwp_seq ?_
      refine dwp_region ?_
      refine walk_r rfl rfl rfl (op_move (.inl rfl) (ev1 rfl)) ?_
      refine walk_r rfl rfl rfl (op_move (.inr rfl) (ev1 rfl)) ?_
      refine walk_nil ?_
      refine dwp_seq ?_
      obtain ⟨q1, q2, q3, q4, _⟩ := bits_at (show b < 256 by omega)
      refine dwp_region ?_
      refine walk_r rfl rfl rfl (op_move (.inl rfl) (ev1 rfl)) ?_
      refine walk_r rfl rfl rfl (op_move (.inl rfl) (ev1 rfl)) ?_
      refine walk_r rfl rfl rfl (op_neg rfl (ev1 rfl)) ?_
      refine walk_r rfl rfl rfl (op_iand rfl (ev1 rfl) (ev1 rfl)) ?_
      refine walk_r rfl rfl rfl (op_move (.inr rfl) (ev1 rfl)) ?_
      refine walk_nil ?_
      rw [q1]
      refine dwp_draw [([], []), ([], []), ([], []), ([], []), ([], []), ([], []), ([], []), ([0], []), ([], []), ([], []), ([], []), ([], []), ([], []), ([], []), ([], []), ([0], []), ([], []), ([], []), ([], []), ([], []), ([0], [0])] mixed (by kernel_rfl) ?_
      refine lex_r rfl rfl (op_move (.inl rfl) (ev1 rfl)) ?_
      refine lex_r rfl rfl (op_move (.inl rfl) (ev1 rfl)) ?_
      refine lex_r rfl rfl (op_move (.inl rfl) (ev1 rfl)) ?_
      refine lex_r rfl rfl (op_move (.inl rfl) (ev1 rfl)) ?_
      refine lex_r rfl rfl (op_nc rfl (ev1 rfl) (fun s v h => by cases h; exact ⟨_, rfl⟩)) ?_
      refine lex_r rfl rfl (op_fa rfl fo121_1 (ev1 rfl)) ?_
      refine lex_r rfl rfl (op_wix (lowB b) rfl ar119 (ev1 rfl) (ev1 rfl) (fun _ => rfl) (fun _ => by omega)) ?_
      refine lex_r rfl rfl (op_wld rfl tb47 (ev1 rfl) rfl (fun _ => by omega)) ?_
      refine lex_r rfl rfl (op_move (.inl rfl) (ev1 rfl)) ?_
      refine lex_r rfl rfl (op_move (.inl rfl) (ev1 rfl)) ?_
      refine lex_r rfl rfl (op_move (.inl rfl) (ev1 rfl)) ?_
      refine lex_r rfl rfl (op_ixor rfl (ev1 rfl) (ev1 rfl)) ?_
      refine lex_r rfl rfl (op_nc rfl (ev1 rfl) (fun s v h => by cases h; exact ⟨_, rfl⟩)) ?_
      refine lex_r rfl rfl (op_fa rfl fo121_1 (ev1 rfl)) ?_
      refine lex_r rfl rfl (op_wix (offB b) rfl ar119 (ev1 rfl) (ev1 rfl) (fun _ => q3) (fun _ => by omega)) ?_
      refine lex_r rfl rfl (op_wld rfl tb47 (ev1 rfl) rfl (fun _ => by omega)) ?_
      refine lex_r rfl rfl (op_ixor rfl (ev1 rfl) (ev1 rfl)) ?_
      refine lex_r rfl rfl (op_nc rfl (ev1 rfl) (fun s v h => by cases h; exact ⟨_, rfl⟩)) ?_
      refine lex_r rfl rfl (op_fa rfl fo121_1 (ev1 rfl)) ?_
      refine lex_r rfl rfl (op_wix (b) rfl ar119 (ev1 rfl) (ev1 rfl) (fun _ => rfl) (fun _ => by omega)) ?_
      refine lex_s rfl rfl (op_wst (n := (f2 b).getD (lowB b) 0 ^^^ (f2 b).getD (offB b) 0) rfl tb47 (ev1 rfl) ⟨_, rfl, fun s v _ hr => by rw [← xor_n (getD_lt (f2_lt b) _) (getD_lt (f2_lt b) _)]; exact hr⟩ rfl (fun _ => by omega)) rfl (by simp only [upd, List.set_cons_zero, List.set_cons_succ]; exact rfl) ?_
      refine lex_nil ?_
      refine dwp_region ?_
      refine walk_r rfl rfl rfl (op_add' rfl (ev1 rfl) (ev1 rfl) (fun _ => IntWalk.i64_in _ (by omega))) ?_
      refine walk_r rfl rfl rfl (op_move (.inl rfl) (ev1 rfl)) ?_
      refine walk_nil ?_
      refine ⟨b + 1, [0], by omega, by simp only []; omega, rfl, ⟨rfl, rfl, trivial⟩, ⟨rfl, trivial⟩⟩
    · try simp only [decide_eq_true_eq, decide_eq_false_iff_not, beq_iff_eq, bne_iff_ne, beq_eq_false_iff_ne, bne_eq_false_iff_eq, Bool.not_eq_true', Bool.not_eq_false', Bool.and_eq_true, Bool.or_eq_true, Bool.or_eq_false_iff, ne_eq, Decidable.not_not, Int.not_lt, Int.not_le] at c2
      refine dwp_exit ?_
      obtain rfl : b = 256 := by omega
      rw [show f2 256 = tabW from rfl]
      refine kend [0] (res_none rfl) rfl rfl ?_ ⟨rfl, trivial⟩
      rfl

set_option maxRecDepth 4000 in
set_option maxHeartbeats 1000000 in
theorem doslow_d (T : TypeId) (q : Int) (R : List Value) : DFun Try.prog 84 [.loc 0 0, .fn (.func 82) [.loc 0 0] []] [.flat T (.int .u32 0 :: .int .i32 0 :: .int .u32 q :: (List.replicate 256 0).map u32v ++ R)] (.tup []) [.flat T (.int .u32 1 :: .int .i32 0 :: .int .u32 q :: (tabW).map u32v ++ R)] := by
  refine dcalls_body (N := 21) 1 (by kernel_rfl) Try.func84 rfl rfl rfl (by simp only [fr0, Nat.zero_add, Nat.reduceAdd]; exact rfl) rfl fun s0 hs0 => ?_
  refine dbody_seq rfl hs0 ?_
  refine dwp_region ?_
  refine walk_r rfl rfl rfl (op_move (.inl rfl) (ev1 rfl)) ?_
  refine walk_r rfl rfl rfl (op_nc rfl (ev1 rfl) (fun s v h => by cases h; exact ⟨_, rfl⟩)) ?_
  refine walk_r rfl rfl rfl (op_fa rfl fo118_2 (ev1 rfl)) ?_
  refine walk_w rfl rfl rfl (dop_call [0] [] [] rfl (ev1 rfl) (ec (ev1 rfl) en) rfl rfl (lock_d _ _ _ _) rfl rfl rfl rfl rfl rfl) (by simp only [upd, List.set_cons_zero, List.set_cons_succ]; exact rfl) ?_
  refine walk_nil ?_
  refine dbody_defer_a (l0 := [_, _, _]) («as» := [_]) rfl rfl rfl rfl rfl hs0 ?_
  refine walk_r rfl rfl rfl (op_move (.inl rfl) (ev1 rfl)) ?_
  refine walk_r rfl rfl rfl (op_nc rfl (ev1 rfl) (fun s v h => by cases h; exact ⟨_, rfl⟩)) ?_
  refine walk_r rfl rfl rfl (op_fa rfl fo118_2 (ev1 rfl)) ?_
  refine walk_nil ⟨_, _, 1, ev1 rfl, (ec (ev1 rfl) en), Nat.le_trans hs0 (by decide), rfl, ?_⟩
  have hs1 : s0.M.length ≤ 1 := Nat.le_trans hs0 (by decide)
  refine dbody_seq rfl hs0 ?_
  refine dwp_region ?_
  refine walk_r rfl rfl rfl (op_move (.inl rfl) (ev1 rfl)) ?_
  refine walk_r rfl rfl rfl (op_nc rfl (ev1 rfl) (fun s v h => by cases h; exact ⟨_, rfl⟩)) ?_
  refine walk_r rfl rfl rfl (op_fa rfl fo118_1 (ev1 rfl)) ?_
  refine walk_w rfl rfl rfl (dop_call [0] [] [] rfl (ev1 rfl) (ec (ev1 rfl) en) rfl rfl (bload_d _ _ _ _ _) rfl rfl rfl rfl rfl rfl) (by simp only [upd, List.set_cons_zero, List.set_cons_succ]; exact rfl) ?_
  refine walk_r rfl rfl rfl (op_not rfl (ev1 rfl)) ?_
  refine walk_nil ?_
  refine dbody_if_t (m := 1) rfl (rfl) ?_
  refine dbody_defer_a (l0 := [_, _, _]) («as» := [_, _]) rfl rfl rfl rfl rfl hs0 ?_
  refine walk_r rfl rfl rfl (op_move (.inl rfl) (ev1 rfl)) ?_
  refine walk_r rfl rfl rfl (op_nc rfl (ev1 rfl) (fun s v h => by cases h; exact ⟨_, rfl⟩)) ?_
  refine walk_r rfl rfl rfl (op_fa rfl fo118_1 (ev1 rfl)) ?_
  refine walk_nil ⟨_, _, 1, ev1 rfl, (ec (ev1 rfl) (ec (ev1 rfl) en)), Nat.le_trans hs0 (by decide), rfl, ?_⟩
  have hs2 : s0.M.length ≤ 1 := Nat.le_trans hs0 (by decide)
  refine dbody_end rfl hs0 ?_
  refine dwp_region ?_
  refine walk_r rfl rfl rfl (op_move (.inl rfl) (ev1 rfl)) ?_
  refine walk_w rfl rfl rfl (dop_call [0] [] [] rfl (ev1 rfl) en rfl rfl (fill_d _ _ _ _ _) rfl rfl rfl rfl rfl rfl) (by simp only [upd, List.set_cons_zero, List.set_cons_succ]; exact rfl) ?_
  refine walk_nil ?_
  refine kdef (dturn_idle [0] [] rfl rfl (bstore_dd _ _ _ _ _) rfl rfl rfl rfl rfl) ?_
  refine kdef (dturn_idle [0] [] rfl rfl (unlock_dd _ _ _ _) rfl rfl rfl rfl rfl) ?_
  refine kend [0] (res_none rfl) rfl rfl ?_ ⟨rfl, trivial⟩
  rfl

set_option maxRecDepth 4000 in
set_option maxHeartbeats 1000000 in
theorem do_first (T : TypeId) (q : Int) (R : List Value) : DFun Try.prog 81 [.loc 0 0, .fn (.func 82) [.loc 0 0] []] [.flat T (.int .u32 0 :: .int .i32 0 :: .int .u32 q :: (List.replicate 256 0).map u32v ++ R)] (.tup []) [.flat T (.int .u32 1 :: .int .i32 0 :: .int .u32 q :: (tabW).map u32v ++ R)] := by
  refine dcalls_go (N := 12) 1 (by kernel_rfl) Try.func81 rfl rfl rfl (by simp only [fr0, Nat.zero_add, Nat.reduceAdd]; exact rfl) rfl fun s0 hs0 => ?_
  refine dwp_seq ?_
  refine dwp_region ?_
  refine walk_r rfl rfl rfl (op_move (.inl rfl) (ev1 rfl)) ?_
  refine walk_r rfl rfl rfl (op_nc rfl (ev1 rfl) (fun s v h => by cases h; exact ⟨_, rfl⟩)) ?_
  refine walk_r rfl rfl rfl (op_fa rfl fo118_1 (ev1 rfl)) ?_
  refine walk_w rfl rfl rfl (dop_call [0] [] [] rfl (ev1 rfl) (ec (ev1 rfl) en) rfl rfl (bload_d _ _ _ _ _) rfl rfl rfl rfl rfl rfl) (by simp only [upd, List.set_cons_zero, List.set_cons_succ]; exact rfl) ?_
  refine walk_r rfl rfl rfl (op_not rfl (ev1 rfl)) ?_
  refine walk_nil ?_
  refine dwp_if_t rfl (rfl) ?_
  refine dwp_region ?_
  refine walk_r rfl rfl rfl (op_move (.inl rfl) (ev1 rfl)) ?_
  refine walk_r rfl rfl rfl (op_move (.inl rfl) (ev1 rfl)) ?_
  refine walk_w rfl rfl rfl (dop_call [0] [] [] rfl (ev1 rfl) (ec (ev1 rfl) (ec (ev1 rfl) en)) rfl rfl (doslow_d _ _ _) rfl rfl rfl rfl rfl rfl) (by simp only [upd, List.set_cons_zero, List.set_cons_succ]; exact rfl) ?_
  refine walk_nil ?_
  refine kend [0] (res_none rfl) rfl rfl ?_ ⟨rfl, trivial⟩
  rfl

set_option maxRecDepth 4000 in
set_option maxHeartbeats 1000000 in
theorem do_done (T : TypeId) (q : Int) (R : List Value) : DFun Try.prog 81 [.loc 0 0, .fn (.func 82) [.loc 0 0] []] [.flat T (.int .u32 1 :: .int .i32 0 :: .int .u32 q :: (tabW).map u32v ++ R)] (.tup []) [.flat T (.int .u32 1 :: .int .i32 0 :: .int .u32 q :: (tabW).map u32v ++ R)] := by
  refine dcalls_go (N := 12) 1 (by kernel_rfl) Try.func81 rfl rfl rfl (by simp only [fr0, Nat.zero_add, Nat.reduceAdd]; exact rfl) rfl fun s0 hs0 => ?_
  refine dwp_seq ?_
  refine dwp_region ?_
  refine walk_r rfl rfl rfl (op_move (.inl rfl) (ev1 rfl)) ?_
  refine walk_r rfl rfl rfl (op_nc rfl (ev1 rfl) (fun s v h => by cases h; exact ⟨_, rfl⟩)) ?_
  refine walk_r rfl rfl rfl (op_fa rfl fo118_1 (ev1 rfl)) ?_
  refine walk_w rfl rfl rfl (dop_call [0] [] [] rfl (ev1 rfl) (ec (ev1 rfl) en) rfl rfl (bload_d _ _ _ _ _) rfl rfl rfl rfl rfl rfl) (by simp only [upd, List.set_cons_zero, List.set_cons_succ]; exact rfl) ?_
  refine walk_r rfl rfl rfl (op_not rfl (ev1 rfl)) ?_
  refine walk_nil ?_
  refine dwp_if_f rfl (rfl) ?_
  refine dwp_skip ?_
  refine kend [0] (res_none rfl) rfl rfl ?_ ⟨rfl, trivial⟩
  rfl

set_option maxRecDepth 4000 in
set_option maxHeartbeats 1000000 in
theorem made_first (T : TypeId) (q : Int) (R : List Value) : DFun Try.prog 76 [.loc 0 0] [.flat T (.int .u32 0 :: .int .i32 0 :: .int .u32 q :: (List.replicate 256 0).map u32v ++ R)] (.loc 0 3) [.flat T (.int .u32 1 :: .int .i32 0 :: .int .u32 q :: (tabW).map u32v ++ R)] := by
  refine dcalls_go (N := 12) 1 (by kernel_rfl) Try.func76 rfl rfl rfl (by simp only [fr0, Nat.zero_add, Nat.reduceAdd]; exact rfl) rfl fun s0 hs0 => ?_
  refine dwp_seq ?_
  refine dwp_region ?_
  refine walk_r rfl rfl rfl (op_move (.inr rfl) (ev1 rfl)) ?_
  refine walk_nil ?_
  refine dwp_seq ?_
  refine dwp_region ?_
  refine walk_r rfl rfl rfl (op_move (.inl rfl) (ev1 rfl)) ?_
  refine walk_r rfl rfl rfl (op_nc rfl (ev1 rfl) (fun s v h => by cases h; exact ⟨_, rfl⟩)) ?_
  refine walk_r rfl rfl rfl (op_fa rfl fo121_0 (ev1 rfl)) ?_
  refine walk_r rfl rfl rfl (op_move (.inl rfl) (ev1 rfl)) ?_
  refine walk_r rfl rfl rfl (op_mkf rfl (ec (ev1 rfl) en) en) ?_
  refine walk_w rfl rfl rfl (dop_call [0] [] [] rfl (ev1 rfl) (ec (ev1 rfl) (ec (ev1 rfl) en)) rfl rfl (do_first _ _ _) rfl rfl rfl rfl rfl rfl) (by simp only [upd, List.set_cons_zero, List.set_cons_succ]; exact rfl) ?_
  refine walk_nil ?_
  refine dwp_seq ?_
  refine dwp_region ?_
  refine walk_r rfl rfl rfl (op_move (.inl rfl) (ev1 rfl)) ?_
  refine walk_r rfl rfl rfl (op_nc rfl (ev1 rfl) (fun s v h => by cases h; exact ⟨_, rfl⟩)) ?_
  refine walk_r rfl rfl rfl (op_fa rfl fo121_1 (ev1 rfl)) ?_
  refine walk_r rfl rfl rfl (op_move (.inr rfl) (ev1 rfl)) ?_
  refine walk_nil ?_
  refine dwp_ret ?_
  refine kend [0] (rs1 rfl (rv_t rfl)) rfl rfl ?_ ⟨rfl, trivial⟩
  rfl

set_option maxRecDepth 4000 in
set_option maxHeartbeats 1000000 in
theorem made_done (T : TypeId) (q : Int) (R : List Value) : DFun Try.prog 76 [.loc 0 0] [.flat T (.int .u32 1 :: .int .i32 0 :: .int .u32 q :: (tabW).map u32v ++ R)] (.loc 0 3) [.flat T (.int .u32 1 :: .int .i32 0 :: .int .u32 q :: (tabW).map u32v ++ R)] := by
  refine dcalls_go (N := 12) 1 (by kernel_rfl) Try.func76 rfl rfl rfl (by simp only [fr0, Nat.zero_add, Nat.reduceAdd]; exact rfl) rfl fun s0 hs0 => ?_
  refine dwp_seq ?_
  refine dwp_region ?_
  refine walk_r rfl rfl rfl (op_move (.inr rfl) (ev1 rfl)) ?_
  refine walk_nil ?_
  refine dwp_seq ?_
  refine dwp_region ?_
  refine walk_r rfl rfl rfl (op_move (.inl rfl) (ev1 rfl)) ?_
  refine walk_r rfl rfl rfl (op_nc rfl (ev1 rfl) (fun s v h => by cases h; exact ⟨_, rfl⟩)) ?_
  refine walk_r rfl rfl rfl (op_fa rfl fo121_0 (ev1 rfl)) ?_
  refine walk_r rfl rfl rfl (op_move (.inl rfl) (ev1 rfl)) ?_
  refine walk_r rfl rfl rfl (op_mkf rfl (ec (ev1 rfl) en) en) ?_
  refine walk_w rfl rfl rfl (dop_call [0] [] [] rfl (ev1 rfl) (ec (ev1 rfl) (ec (ev1 rfl) en)) rfl rfl (do_done _ _ _) rfl rfl rfl rfl rfl rfl) (by simp only [upd, List.set_cons_zero, List.set_cons_succ]; exact rfl) ?_
  refine walk_nil ?_
  refine dwp_seq ?_
  refine dwp_region ?_
  refine walk_r rfl rfl rfl (op_move (.inl rfl) (ev1 rfl)) ?_
  refine walk_r rfl rfl rfl (op_nc rfl (ev1 rfl) (fun s v h => by cases h; exact ⟨_, rfl⟩)) ?_
  refine walk_r rfl rfl rfl (op_fa rfl fo121_1 (ev1 rfl)) ?_
  refine walk_r rfl rfl rfl (op_move (.inr rfl) (ev1 rfl)) ?_
  refine walk_nil ?_
  refine dwp_ret ?_
  refine kend [0] (rs1 rfl (rv_t rfl)) rfl rfl ?_ ⟨rfl, trivial⟩
  rfl

set_option maxRecDepth 4000 in
set_option maxHeartbeats 1000000 in
theorem feed_first (T : TypeId) (bits b : Nat) (hbits : bits < 2 ^ 32) (hb : b < 256) : DFun Try.prog 72 [.loc 0 0, .val (.int .u8 (b : Int))] [.flat T (regL 0 (List.replicate 256 0) bits)] (.tup []) [.flat T (regL 1 tabW (Zs 8 (bits ^^^ b)))] := by
  refine dcalls_go (N := 27) 1 (by kernel_rfl) Try.func72 rfl rfl rfl (by simp only [fr0, Nat.zero_add, Nat.reduceAdd]; exact rfl) rfl fun s0 hs0 => ?_
  have hxl : (bits % 256) ^^^ b < 256 := Nat.xor_lt_two_pow (n := 8) (by omega) (by omega)
  have hu8 : IntKind.u8.wrap (bits : Int) = ((bits % 256 : Nat) : Int) := by rw [IntKind.wrap_u8]; omega
  have hix : xorZ .u8 (IntKind.u8.wrap (bits : Int)) (b : Int) = (((bits % 256) ^^^ b : Nat) : Int) := by rw [hu8]; exact xor_b (by omega) hb
  have hfeed : xorZ .u32 ((bits : Int) / 2 ^ 8) ((tabW.getD ((bits % 256) ^^^ b) 0 : Nat) : Int) = (Zs 8 (bits ^^^ b) : Nat) := by rw [shr_n, xor_n (by rw [Nat.shiftRight_eq_div_pow]; omega) (getD_lt tabW_lt _), feed_eq hbits hb]
  refine dwp_draw3 [4, 13] 9 [0] [.flat T (regL 1 tabW bits)] [([], []), ([], []), ([], []), ([], []), ([0], []), ([], []), ([], []), ([], []), ([], []), ([0], [0]), ([], []), ([], []), ([], []), ([0], []), ([], []), ([], []), ([], []), ([], []), ([], []), ([0], []), ([], []), ([], []), ([], []), ([0], [0])] rfl mixed (by kernel_rfl) ?_
  refine lex3_r rfl rfl rfl (op_move (.inl rfl) (ev1 rfl)) ?_
  refine lex3_r rfl rfl rfl (op_move (.inl rfl) (ev1 rfl)) ?_
  refine lex3_r rfl rfl rfl (op_nc rfl (ev1 rfl) (fun s v h => by cases h; exact ⟨_, rfl⟩)) ?_
  refine lex3_r rfl rfl rfl (op_fa rfl fo123_1 (ev1 rfl)) ?_
  refine lex3_i rfl rfl rfl rfl ((by first | exact op_bits (by rw [List.length_replicate]) rfl tb47 (ev1 rfl) rfl | exact op_bits tabW_len rfl tb47 (ev1 rfl) rfl)) ((by first | exact op_bits (by rw [List.length_replicate]) rfl tb47 (ev1 rfl) rfl | exact op_bits tabW_len rfl tb47 (ev1 rfl) rfl)) ((by first | exact op_bits (by rw [List.length_replicate]) rfl tb47 (ev1 rfl) rfl | exact op_bits tabW_len rfl tb47 (ev1 rfl) rfl)) ?_
  refine lex3_r rfl rfl rfl (op_shr (8) rfl (ev1 rfl) (ev1 rfl) (fun hp => by first | exact ⟨by omega, by decide⟩ | (simp [IntKind.bits]; omega))) ?_
  refine lex3_r rfl rfl rfl (op_move (.inl rfl) (ev1 rfl)) ?_
  refine lex3_r rfl rfl rfl (op_nc rfl (ev1 rfl) (fun s v h => by cases h; exact ⟨_, rfl⟩)) ?_
  refine lex3_r rfl rfl rfl (op_fa rfl fo123_0 (ev1 rfl)) ?_
  refine lex3_j rfl rfl rfl (dop_call [0] [] [] rfl (ev1 rfl) (ec (ev1 rfl) en) rfl rfl (made_first _ _ _) rfl rfl rfl rfl rfl rfl) rfl (by simp only [upd, List.set_cons_zero, List.set_cons_succ]; exact rfl) (by simp only [List.mem_cons, List.not_mem_nil, or_false]; rintro x rfl; rfl) ?_
  refine lex3_r rfl rfl rfl (op_move (.inl rfl) (ev1 rfl)) ?_
  refine lex3_r rfl rfl rfl (op_nc rfl (ev1 rfl) (fun s v h => by cases h; exact ⟨_, rfl⟩)) ?_
  refine lex3_r rfl rfl rfl (op_fa rfl fo123_1 (ev1 rfl)) ?_
  refine lex3_i rfl rfl rfl rfl ((by first | exact op_bits (by rw [List.length_replicate]) rfl tb47 (ev1 rfl) rfl | exact op_bits tabW_len rfl tb47 (ev1 rfl) rfl)) ((by first | exact op_bits (by rw [List.length_replicate]) rfl tb47 (ev1 rfl) rfl | exact op_bits tabW_len rfl tb47 (ev1 rfl) rfl)) ((by first | exact op_bits (by rw [List.length_replicate]) rfl tb47 (ev1 rfl) rfl | exact op_bits tabW_len rfl tb47 (ev1 rfl) rfl)) ?_
  refine lex3_r rfl rfl rfl (op_conv ty47 kn5 rfl (ev1 rfl)) ?_
  refine lex3_r rfl rfl rfl (op_move (.inl rfl) (ev1 rfl)) ?_
  refine lex3_r rfl rfl rfl (op_ixor rfl (ev1 rfl) (ev1 rfl)) ?_
  refine lex3_r rfl rfl rfl (op_nc rfl (ev1 rfl) (fun s v h => by cases h; exact ⟨_, rfl⟩)) ?_
  refine lex3_r rfl rfl rfl (op_wix ((bits % 256) ^^^ b) rfl ar119 (ev1 rfl) (ev1 rfl) (fun _ => hix) (fun _ => hxl)) ?_
  refine lex3_r rfl rfl rfl (op_wld rfl tb47 (ev1 rfl) rfl (fun _ => by rw [tabW_len]; exact hxl)) ?_
  refine lex3_r rfl rfl rfl (op_ixor rfl (ev1 rfl) (ev1 rfl)) ?_
  refine lex3_r rfl rfl rfl (op_nc rfl (ev1 rfl) (fun s v h => by cases h; exact ⟨_, rfl⟩)) ?_
  refine lex3_r rfl rfl rfl (op_fa rfl fo123_1 (ev1 rfl)) ?_
  refine lex3_s rfl rfl rfl (op_bst (n := (Zs 8 (bits ^^^ b) : Nat)) tabW_len rfl tb47 (ev1 rfl) ⟨_, rfl, fun s v _ hr => by rw [← hfeed]; exact hr⟩ rfl) rfl (by simp only [upd, List.set_cons_zero, List.set_cons_succ]; exact rfl) ?_
  refine lex3_nil ?_
  refine kend [0] (res_none rfl) rfl rfl ?_ ⟨rfl, trivial⟩
  rfl

set_option maxRecDepth 4000 in
set_option maxHeartbeats 1000000 in
theorem feed_done (T : TypeId) (bits b : Nat) (hbits : bits < 2 ^ 32) (hb : b < 256) : DFun Try.prog 72 [.loc 0 0, .val (.int .u8 (b : Int))] [.flat T (regL 1 (tabW) bits)] (.tup []) [.flat T (regL 1 tabW (Zs 8 (bits ^^^ b)))] := by
  refine dcalls_go (N := 27) 1 (by kernel_rfl) Try.func72 rfl rfl rfl (by simp only [fr0, Nat.zero_add, Nat.reduceAdd]; exact rfl) rfl fun s0 hs0 => ?_
  have hxl : (bits % 256) ^^^ b < 256 := Nat.xor_lt_two_pow (n := 8) (by omega) (by omega)
  have hu8 : IntKind.u8.wrap (bits : Int) = ((bits % 256 : Nat) : Int) := by rw [IntKind.wrap_u8]; omega
  have hix : xorZ .u8 (IntKind.u8.wrap (bits : Int)) (b : Int) = (((bits % 256) ^^^ b : Nat) : Int) := by rw [hu8]; exact xor_b (by omega) hb
  have hfeed : xorZ .u32 ((bits : Int) / 2 ^ 8) ((tabW.getD ((bits % 256) ^^^ b) 0 : Nat) : Int) = (Zs 8 (bits ^^^ b) : Nat) := by rw [shr_n, xor_n (by rw [Nat.shiftRight_eq_div_pow]; omega) (getD_lt tabW_lt _), feed_eq hbits hb]
  refine dwp_draw3 [4, 13] 9 [0] [.flat T (regL 1 tabW bits)] [([], []), ([], []), ([], []), ([], []), ([0], []), ([], []), ([], []), ([], []), ([], []), ([0], [0]), ([], []), ([], []), ([], []), ([0], []), ([], []), ([], []), ([], []), ([], []), ([], []), ([0], []), ([], []), ([], []), ([], []), ([0], [0])] rfl mixed (by kernel_rfl) ?_
  refine lex3_r rfl rfl rfl (op_move (.inl rfl) (ev1 rfl)) ?_
  refine lex3_r rfl rfl rfl (op_move (.inl rfl) (ev1 rfl)) ?_
  refine lex3_r rfl rfl rfl (op_nc rfl (ev1 rfl) (fun s v h => by cases h; exact ⟨_, rfl⟩)) ?_
  refine lex3_r rfl rfl rfl (op_fa rfl fo123_1 (ev1 rfl)) ?_
  refine lex3_i rfl rfl rfl rfl ((by first | exact op_bits (by rw [List.length_replicate]) rfl tb47 (ev1 rfl) rfl | exact op_bits tabW_len rfl tb47 (ev1 rfl) rfl)) ((by first | exact op_bits (by rw [List.length_replicate]) rfl tb47 (ev1 rfl) rfl | exact op_bits tabW_len rfl tb47 (ev1 rfl) rfl)) ((by first | exact op_bits (by rw [List.length_replicate]) rfl tb47 (ev1 rfl) rfl | exact op_bits tabW_len rfl tb47 (ev1 rfl) rfl)) ?_
  refine lex3_r rfl rfl rfl (op_shr (8) rfl (ev1 rfl) (ev1 rfl) (fun hp => by first | exact ⟨by omega, by decide⟩ | (simp [IntKind.bits]; omega))) ?_
  refine lex3_r rfl rfl rfl (op_move (.inl rfl) (ev1 rfl)) ?_
  refine lex3_r rfl rfl rfl (op_nc rfl (ev1 rfl) (fun s v h => by cases h; exact ⟨_, rfl⟩)) ?_
  refine lex3_r rfl rfl rfl (op_fa rfl fo123_0 (ev1 rfl)) ?_
  refine lex3_j rfl rfl rfl (dop_call [0] [] [] rfl (ev1 rfl) (ec (ev1 rfl) en) rfl rfl (made_done _ _ _) rfl rfl rfl rfl rfl rfl) rfl (by simp only [upd, List.set_cons_zero, List.set_cons_succ]; exact rfl) (by simp only [List.mem_cons, List.not_mem_nil, or_false]; rintro x rfl; rfl) ?_
  refine lex3_r rfl rfl rfl (op_move (.inl rfl) (ev1 rfl)) ?_
  refine lex3_r rfl rfl rfl (op_nc rfl (ev1 rfl) (fun s v h => by cases h; exact ⟨_, rfl⟩)) ?_
  refine lex3_r rfl rfl rfl (op_fa rfl fo123_1 (ev1 rfl)) ?_
  refine lex3_i rfl rfl rfl rfl ((by first | exact op_bits (by rw [List.length_replicate]) rfl tb47 (ev1 rfl) rfl | exact op_bits tabW_len rfl tb47 (ev1 rfl) rfl)) ((by first | exact op_bits (by rw [List.length_replicate]) rfl tb47 (ev1 rfl) rfl | exact op_bits tabW_len rfl tb47 (ev1 rfl) rfl)) ((by first | exact op_bits (by rw [List.length_replicate]) rfl tb47 (ev1 rfl) rfl | exact op_bits tabW_len rfl tb47 (ev1 rfl) rfl)) ?_
  refine lex3_r rfl rfl rfl (op_conv ty47 kn5 rfl (ev1 rfl)) ?_
  refine lex3_r rfl rfl rfl (op_move (.inl rfl) (ev1 rfl)) ?_
  refine lex3_r rfl rfl rfl (op_ixor rfl (ev1 rfl) (ev1 rfl)) ?_
  refine lex3_r rfl rfl rfl (op_nc rfl (ev1 rfl) (fun s v h => by cases h; exact ⟨_, rfl⟩)) ?_
  refine lex3_r rfl rfl rfl (op_wix ((bits % 256) ^^^ b) rfl ar119 (ev1 rfl) (ev1 rfl) (fun _ => hix) (fun _ => hxl)) ?_
  refine lex3_r rfl rfl rfl (op_wld rfl tb47 (ev1 rfl) rfl (fun _ => by rw [tabW_len]; exact hxl)) ?_
  refine lex3_r rfl rfl rfl (op_ixor rfl (ev1 rfl) (ev1 rfl)) ?_
  refine lex3_r rfl rfl rfl (op_nc rfl (ev1 rfl) (fun s v h => by cases h; exact ⟨_, rfl⟩)) ?_
  refine lex3_r rfl rfl rfl (op_fa rfl fo123_1 (ev1 rfl)) ?_
  refine lex3_s rfl rfl rfl (op_bst (n := (Zs 8 (bits ^^^ b) : Nat)) tabW_len rfl tb47 (ev1 rfl) ⟨_, rfl, fun s v _ hr => by rw [← hfeed]; exact hr⟩ rfl) rfl (by simp only [upd, List.set_cons_zero, List.set_cons_succ]; exact rfl) ?_
  refine lex3_nil ?_
  refine kend [0] (res_none rfl) rfl rfl ?_ ⟨rfl, trivial⟩
  rfl

theorem feed_d (T : TypeId) (n bits b : Nat) (hbits : bits < 2 ^ 32) (hb : b < 256) : DFun Try.prog 72 [.loc 0 0, .val (.int .u8 (b : Int))] [.flat T (regB n bits)] (.tup []) [.flat T (regB (n + 1) (Zs 8 (bits ^^^ b)))] := by
  cases n with
  | zero => exact feed_first T bits b hbits hb
  | succ n => exact feed_done T bits b hbits hb

set_option maxRecDepth 4000 in
set_option maxHeartbeats 1000000 in
theorem fresh_d (s : Nat) (hs : s < 2 ^ 32) : DFun Try.prog 65 [.val (.int .u32 (s : Int))] [] (.loc 0 0) [.flat 123 (regB 0 (trn s))] := by
  refine dcalls_go (N := 7) 0 (by kernel_rfl) Try.func65 rfl rfl rfl (by simp only [fr0, Nat.zero_add, Nat.reduceAdd]; exact rfl) rfl fun s0 hs0 => ?_
  refine dwp_seq ?_
  refine dwp_region ?_
  refine walk_r rfl rfl rfl (op_move (.inr rfl) (ev1 rfl)) ?_
  refine walk_nil ?_
  refine dwp_seq ?_
  have hc := cpl_n hs
  refine dwp_holes 1 (by simp only [holes, List.cons_append, List.nil_append]; exact rfl) ?_
  refine dwp_region ?_
  refine walk_r rfl rfl rfl (op_move (.inl rfl) (ev1 rfl)) ?_
  refine walk_r rfl rfl rfl (op_cpl rfl (ev1 rfl)) ?_
  refine walk_r rfl rfl rfl (op_build (ps := [(1, .tmp 4)]) rfl fl123 zr123 (vc (ev1 rfl) vn) rfl rfl) ?_
  refine walk_w rfl rfl rfl (op_boxa 0 rfl (ev1 rfl) rfl) (by simp only [upd, List.set_cons_zero, List.set_cons_succ]; exact rfl) ?_
  refine walk_r rfl rfl rfl (op_move (.inr rfl) (ev1 rfl)) ?_
  refine walk_nil ?_
  refine dwp_ret ?_
  refine kend [0] (rs1 rfl (rv_t rfl)) rfl rfl ?_ ⟨?_, trivial⟩
  rfl
  exact (by show some (Blk.flat _ _) = _; rw [hc]; rfl)

set_option maxRecDepth 4000 in
set_option maxHeartbeats 1000000 in
theorem sum_d (T : TypeId) (n b : Nat) (hb : b < 2 ^ 32) : DFun Try.prog 67 [.loc 0 0] [.flat T (regB n b)] (.val (.int .u32 (trn b : Nat))) [.flat T (regB n b)] := by
  refine dcalls_go (N := 8) 1 (by kernel_rfl) Try.func67 rfl rfl rfl (by simp only [fr0, Nat.zero_add, Nat.reduceAdd]; exact rfl) rfl fun s0 hs0 => ?_
  refine dwp_seq ?_
  refine dwp_region ?_
  refine walk_r rfl rfl rfl (op_move (.inr rfl) (ev1 rfl)) ?_
  refine walk_nil ?_
  refine dwp_seq ?_
  refine dwp_region ?_
  refine walk_r rfl rfl rfl (op_move (.inl rfl) (ev1 rfl)) ?_
  refine walk_r rfl rfl rfl (op_nc rfl (ev1 rfl) (fun s v h => by cases h; exact ⟨_, rfl⟩)) ?_
  refine walk_r rfl rfl rfl (op_fa rfl fo123_1 (ev1 rfl)) ?_
  refine walk_r rfl rfl rfl ((op_reg rfl tb47 (ev1 rfl) rfl)) ?_
  refine walk_r rfl rfl rfl (op_cpl rfl (ev1 rfl)) ?_
  refine walk_r rfl rfl rfl (op_move (.inr rfl) (ev1 rfl)) ?_
  refine walk_nil ?_
  refine dwp_ret ?_
  refine kend [0] (rs1 rfl (rv_t rfl)) rfl rfl ?_ ⟨rfl, trivial⟩
  rw [cpl_n hb]

abbrev rN (l : List Nat) : D := .slf 1 l.length (l.flatMap un8)
def isN (l : List Nat) : Prop := ∀ x ∈ l, x < 256
theorem flat_lt {ps : List (List Nat)} (h : ∀ p ∈ ps, isN p) : isN ps.flatten := fun x hx => by
  obtain ⟨p, hp, hx⟩ := List.mem_flatten.1 hx
  exact h p hp x hx
def upto (ps : List (List Nat)) (i j : Nat) : List Nat := (ps.take i).flatten ++ (ps.getD i []).take j
theorem upto_lt {ps : List (List Nat)} (h : ∀ p ∈ ps, isN p) (i j : Nat) : isN (upto ps i j) := fun x hx => by
  rcases List.mem_append.1 hx with hx | hx
  · obtain ⟨p, hp, hx⟩ := List.mem_flatten.1 hx
    exact h p (List.mem_of_mem_take hp) x hx
  · have hx := List.mem_of_mem_take hx
    rw [List.getD_eq_getElem?_getD] at hx
    cases e : ps[i]? with
    | none => rw [e] at hx; cases hx
    | some p => rw [e] at hx; exact h p (List.mem_of_getElem? e) x hx
theorem upto_zero (ps : List (List Nat)) (i : Nat) : upto ps i 0 = (ps.take i).flatten := by rw [upto, List.take_zero, List.append_nil]
theorem upto_succ {ps : List (List Nat)} {i j : Nat} (hi : i < ps.length) (hj : j < ps[i].length) : upto ps i (j + 1) = upto ps i j ++ [ps[i][j]] := by
  rw [upto, upto, List.append_assoc, List.getD_eq_getElem?_getD, List.getElem?_eq_getElem hi]
  show _ ++ (ps[i]).take (j + 1) = _ ++ ((ps[i]).take j ++ [ps[i][j]])
  rw [List.take_succ_eq_append_getElem hj]
theorem upto_end {ps : List (List Nat)} {i j : Nat} (hi : i < ps.length) (hj : ps[i].length ≤ j) : upto ps i j = upto ps (i + 1) 0 := by
  rw [upto_zero, upto, List.getD_eq_getElem?_getD, List.getElem?_eq_getElem hi, List.take_succ_eq_append_getElem hi, List.flatten_append]
  show _ ++ (ps[i]).take j = _
  rw [List.take_of_length_le hj]
  simp
theorem upto_all (ps : List (List Nat)) {i : Nat} (hi : ps.length ≤ i) : upto ps i 0 = ps.flatten := by rw [upto_zero, List.take_of_length_le hi]
theorem fed_one (r : Nat) (l : List Nat) (x : Nat) : fed r (l ++ [x]) = Zs 8 (fed r l ^^^ x) := by rw [fed_app]; rfl

set_option maxRecDepth 4000 in
set_option maxHeartbeats 1000000 in
theorem told_d (ps : List (List Nat)) : DFun Try.prog 73 [.slm 1 ps.length (ps.flatMap fun p => [rN p])] [] (.fn (.func 77) [] [.loc 0 0]) [.mix 61 [.slm 1 ps.length (ps.flatMap fun p => [rN p])]] := by
  refine dcalls_go (N := 4) 0 (by kernel_rfl) Try.func73 rfl rfl rfl (by simp only [fr0, Nat.zero_add, Nat.reduceAdd]; exact rfl) rfl fun s0 hs0 => ?_
  refine dwp_lenm (t := 0) rfl fun hl0 hL0 => ?_
  refine dwp_seq ?_
  refine dwp_holes 1 (by simp only [holes, List.cons_append, List.nil_append]; exact rfl) ?_
  refine dwp_region ?_
  refine walk_w rfl rfl rfl (op_boxm 0 rfl (ev1 rfl) (fun s v h => by cases h <;> rfl) rfl) (by simp only [upd, List.set_cons_zero, List.set_cons_succ]; exact rfl) ?_
  refine walk_r rfl rfl rfl (op_move (.inr rfl) (ev1 rfl)) ?_
  refine walk_nil ?_
  refine dwp_seq ?_
  refine dwp_region ?_
  refine walk_r rfl rfl rfl (op_mkf rfl en (ec (ev1 rfl) en)) ?_
  refine walk_r rfl rfl rfl (op_move (.inr rfl) (ev1 rfl)) ?_
  refine walk_nil ?_
  refine dwp_ret ?_
  refine kend [0] (rs1 rfl (rv_t rfl)) rfl rfl ?_ ⟨rfl, trivial⟩
  rfl

noncomputable def faA : Code := rfA (pth [1, 1, 0] (bodyOf Try.f66))
noncomputable def faB : Code := rfB (pth [1, 1, 0] (bodyOf Try.f66))

set_option maxRecDepth 4000 in
set_option maxHeartbeats 1000000 in
theorem faRound (n bits b : Nat) (hbits : bits < 2 ^ 32) (hb : b < 256) : DRound Try.prog 0 [.val (.int .u8 (b : Int))] [.lp 14 [(4, .loc 1 0)] #[10] faA faB .ready none, .mix 124 [.fn (.func 72) [.loc 2 0] []], .flat 123 (regB n bits)] true [.lp 14 [(4, .loc 1 0)] #[10] faA faB .ready none, .mix 124 [.fn (.func 72) [.loc 2 0] []], .flat 123 (regB (n + 1) (Zs 8 (bits ^^^ b)))] := by
  refine dround_go 3 rfl rfl (by simp) rfl rfl fun s0 hs0 => ?_
  refine dwp_region ?_
  refine walk_r rfl rfl rfl (op_move (.inr rfl) (ev1 rfl)) ?_
  refine walk_nil ?_
  refine ⟨rfl, ?_⟩
  simp only [List.set_cons_zero, List.set_cons_succ]
  refine dwp_block ?_
  refine dwp_region ?_
  refine walk_r rfl rfl rfl (op_ldm rfl tb124 (ev1 rfl) rfl rfl) ?_
  refine walk_r rfl rfl rfl (op_move (.inl rfl) (ev1 rfl)) ?_
  refine walk_w rfl rfl rfl (dop_call [2] [] [] rfl (ev1 rfl) (ec (ev1 rfl) en) rfl rfl (feed_d _ n bits b hbits hb) rfl rfl rfl rfl rfl rfl) (by simp only [upd, List.set_cons_zero, List.set_cons_succ]; exact rfl) ?_
  refine walk_nil ?_
  refine ⟨by first | rfl | assumption | simp_all, rfl, [0, 1, 2], rfl, ⟨rfl, rfl, rfl, trivial⟩⟩

set_option maxRecDepth 4000 in
set_option maxHeartbeats 1000000 in
theorem told_feed (ps : List (List Nat)) (hps : ∀ p ∈ ps, isN p) (hl : ps.length ≤ 1000) (hpl : ∀ p ∈ ps, p.length ≤ 1000000) (n bits : Nat) (hbits : bits < 2 ^ 32) : DFun Try.prog 77 [.yld 0, .loc 3 0] [.lp 14 [(4, .loc 1 0)] #[10] faA faB .ready none, .mix 124 [.fn (.func 72) [.loc 2 0] []], .flat 123 (regB n bits), .mix 61 [.slm 1 ps.length (ps.flatMap fun p => [rN p])]] (.tup []) [.lp 14 [(4, .loc 1 0)] #[10] faA faB .ready none, .mix 124 [.fn (.func 72) [.loc 2 0] []], .flat 123 (regB (n + ps.flatten.length) (fed bits ps.flatten)), .mix 61 [.slm 1 ps.length (ps.flatMap fun p => [rN p])]] := by
  refine dcalls_go (N := 25) 4 (by kernel_rfl) Try.func77 rfl rfl rfl (by simp only [fr0, Nat.zero_add, Nat.reduceAdd]; exact rfl) rfl fun s0 hs0 => ?_
  refine dwp_seq ?_
  refine dwp_region ?_
  refine walk_r rfl rfl rfl (op_ldm rfl tb61 (ev1 rfl) rfl rfl) ?_
  refine walk_r rfl rfl rfl (op_lenm rfl sl61 (ev1 rfl)) ?_
  refine walk_r rfl rfl rfl (op_move (.inl rfl) (ev1 rfl)) ?_
  refine walk_nil ?_
  refine dwp_block ?_
  refine dwp_loopS ⟨hs0, rfl⟩ (α := Nat) (fun i => [(9, .val (.int .i64 (i : Int)))]) [(0, _), (7, _), (8, _)] (fun i => [(2, .flat 123 (regB (n + (upto ps i 0).length) (fed bits (upto ps i 0))))]) [_, _, .hole, _] (fun i => i ≤ ps.length) (fun i => ps.length - i) 0 [0, 1, 2, 3] (by simp) rfl ⟨rfl, rfl, rfl, trivial⟩ ⟨rfl, trivial⟩ ⟨rfl, rfl, by rw [upto_zero]; rfl, rfl, trivial⟩ ?_
  intro i hx
  simp only [upd, List.set_cons_zero, List.set_cons_succ, List.cons_append, List.nil_append]
  have hi := hx
  refine dwp_seq ?_
  refine dwp_region ?_
  refine walk_r rfl rfl rfl (op_lss rfl (ev1 rfl) (ev1 rfl)) ?_
  refine walk_nil ?_
  refine dwp_seq ?_
  refine dwp_cond rfl (fun c1 => ?_) (fun c1 => ?_)
  · try simp only [decide_eq_true_eq, decide_eq_false_iff_not, beq_iff_eq, bne_iff_ne, beq_eq_false_iff_ne, bne_eq_false_iff_eq, Bool.not_eq_true', Bool.not_eq_false', Bool.and_eq_true, Bool.or_eq_true, Bool.or_eq_false_iff, ne_eq, Decidable.not_not, Int.not_lt, Int.not_le] at c1
    refine dwp_skip ?_
    refine dwp_seq ?_
    refine dwp_block ?_
    refine dwp_seq ?_
    refine dwp_region ?_
    refine walk_r rfl rfl rfl (op_ixm (i) rfl sl61 (ev1 rfl) (ev1 rfl) (fun _ => rfl) (flat1_at (by omega))) ?_
    refine walk_r rfl rfl rfl (op_lddm rfl tb36 (ev1 rfl) rfl) ?_
    refine walk_r rfl rfl rfl (op_move (.inr rfl) (ev1 rfl)) ?_
    refine walk_nil ?_
    refine dwp_seq ?_
    refine dwp_region ?_
    refine walk_r rfl rfl rfl (op_move (.inl rfl) (ev1 rfl)) ?_
    refine walk_r rfl rfl rfl (op_len rfl sl36 (ev1 rfl)) ?_
    refine walk_r rfl rfl rfl (op_move (.inl rfl) (ev1 rfl)) ?_
    refine walk_nil ?_
    refine dwp_block ?_
    refine dwp_loopS ⟨hs0, rfl⟩ (α := Nat) (fun j => [(15, .val (.int .i64 (j : Int)))]) [(0, _), (7, _), (8, _), (9, _), (13, _), (14, _)] (fun j => [(2, .flat 123 (regB (n + (upto ps i j).length) (fed bits (upto ps i j))))]) [_, _, .hole, _] (fun j => j ≤ ps[i].length) (fun j => ps[i].length - j) 0 [0, 1, 2, 3] (by simp) rfl ⟨rfl, rfl, rfl, rfl, rfl, rfl, trivial⟩ ⟨rfl, trivial⟩ ⟨rfl, rfl, rfl, rfl, trivial⟩ ?_
    intro j hx
    simp only [upd, List.set_cons_zero, List.set_cons_succ, List.cons_append, List.nil_append]
    have hj := hx
    have hpi := hpl ps[i] (List.getElem_mem _)
    have hul := upto_lt hps i j
    have hfl := fed_lt (upto ps i j) hbits hul
    refine dwp_seq ?_
    refine dwp_region ?_
    refine walk_r rfl rfl rfl (op_lss rfl (ev1 rfl) (ev1 rfl)) ?_
    refine walk_nil ?_
    refine dwp_seq ?_
    refine dwp_cond rfl (fun c2 => ?_) (fun c2 => ?_)
    · try simp only [decide_eq_true_eq, decide_eq_false_iff_not, beq_iff_eq, bne_iff_ne, beq_eq_false_iff_ne, bne_eq_false_iff_eq, Bool.not_eq_true', Bool.not_eq_false', Bool.and_eq_true, Bool.or_eq_true, Bool.or_eq_false_iff, ne_eq, Decidable.not_not, Int.not_lt, Int.not_le] at c2
      refine dwp_skip ?_
      refine dwp_seq ?_
      refine dwp_block ?_
      refine dwp_seq ?_
      refine dwp_region ?_
      refine walk_r rfl rfl rfl (op_ixsr (j := j) rfl sl36 (ev1 rfl) (ev1 rfl) (fun _ => rfl) (by decide) (by omega) (by omega)) ?_
      refine walk_r rfl rfl rfl (op_ldod rfl tb5 (ev1 rfl) rfl) ?_
      refine walk_r rfl rfl rfl (op_move (.inr rfl) (ev1 rfl)) ?_
      refine walk_nil ?_
      refine dwp_seq ?_
      refine dwp_region ?_
      refine walk_r rfl rfl rfl (op_move (.inl rfl) (ev1 rfl)) ?_
      refine walk_r rfl rfl rfl (op_move (.inl rfl) (ev1 rfl)) ?_
      refine walk_w rfl rfl rfl (op_y (i := 0) [0, 1, 2] [] [] rfl (ev1 rfl) (ec (ev1 rfl) en) rfl rfl rfl (faRound _ _ ps[i][j] hfl (hps ps[i] (List.getElem_mem _) _ (List.getElem_mem _))) rfl rfl rfl rfl rfl) (by simp only [upd, List.set_cons_zero, List.set_cons_succ]; exact rfl) ?_
      refine walk_r rfl rfl rfl (op_not rfl (ev1 rfl)) ?_
      refine walk_nil ?_
      refine dwp_if_f rfl (rfl) ?_
      refine dwp_skip ?_
      refine dwp_region ?_
      refine walk_r rfl rfl rfl (op_add' rfl (ev1 rfl) (ev1 rfl) (fun _ => IntWalk.i64_in _ (by omega))) ?_
      refine walk_r rfl rfl rfl (op_move (.inl rfl) (ev1 rfl)) ?_
      refine walk_nil ?_
      refine ⟨j + 1, [0, 1, 2, 3], by omega, by simp only []; omega, rfl, ⟨rfl, rfl, rfl, rfl, rfl, rfl, rfl, trivial⟩, ⟨rfl, rfl, by rw [upto_succ (by omega) (by omega), fed_one, List.length_append]; rfl, rfl, trivial⟩⟩
    · try simp only [decide_eq_true_eq, decide_eq_false_iff_not, beq_iff_eq, bne_iff_ne, beq_eq_false_iff_ne, bne_eq_false_iff_eq, Bool.not_eq_true', Bool.not_eq_false', Bool.and_eq_true, Bool.or_eq_true, Bool.or_eq_false_iff, ne_eq, Decidable.not_not, Int.not_lt, Int.not_le] at c2
      refine dwp_exit ?_
      refine dwp_region ?_
      refine walk_r rfl rfl rfl (op_add' rfl (ev1 rfl) (ev1 rfl) (fun _ => IntWalk.i64_in _ (by omega))) ?_
      refine walk_r rfl rfl rfl (op_move (.inl rfl) (ev1 rfl)) ?_
      refine walk_nil ?_
      rw [upto_end (show i < ps.length by omega) (show ps[i].length ≤ j by omega)]
      refine ⟨i + 1, [0, 1, 2, 3], by omega, by simp only []; omega, rfl, ⟨rfl, rfl, rfl, rfl, trivial⟩, ⟨rfl, rfl, rfl, rfl, trivial⟩⟩
  · try simp only [decide_eq_true_eq, decide_eq_false_iff_not, beq_iff_eq, bne_iff_ne, beq_eq_false_iff_ne, bne_eq_false_iff_eq, Bool.not_eq_true', Bool.not_eq_false', Bool.and_eq_true, Bool.or_eq_true, Bool.or_eq_false_iff, ne_eq, Decidable.not_not, Int.not_lt, Int.not_le] at c1
    refine dwp_exit ?_
    rw [upto_all ps (show ps.length ≤ i by omega)]
    refine kend [0, 1, 2, 3] (res_none rfl) rfl rfl ?_ ⟨rfl, rfl, rfl, rfl, trivial⟩
    rfl

set_option maxRecDepth 4000 in
set_option maxHeartbeats 1000000 in
theorem feedall_d (ps : List (List Nat)) (hps : ∀ p ∈ ps, isN p) (hl : ps.length ≤ 1000) (hpl : ∀ p ∈ ps, p.length ≤ 1000000) (n bits : Nat) (hbits : bits < 2 ^ 32) : DFun Try.prog 66 [.loc 0 0, .slm 1 ps.length (ps.flatMap fun p => [rN p])] [.flat 123 (regB n bits)] (.tup []) [.flat 123 (regB (n + ps.flatten.length) (fed bits ps.flatten))] := by
  refine dcalls_go (N := 14) 1 (by kernel_rfl) Try.func66 rfl rfl rfl (by simp only [fr0, Nat.zero_add, Nat.reduceAdd]; exact rfl) rfl fun s0 hs0 => ?_
  refine dwp_lenm (t := 1) rfl fun hl1 hL1 => ?_
  refine dwp_seq ?_
  refine dwp_holes 1 (by simp only [holes, List.cons_append, List.nil_append]; exact rfl) ?_
  refine dwp_region ?_
  refine walk_r rfl rfl rfl (op_move (.inl rfl) (ev1 rfl)) ?_
  refine walk_r rfl rfl rfl (op_mkf rfl (ec (ev1 rfl) en) en) ?_
  refine walk_w rfl rfl rfl (op_alloc 1 rfl zr124 rfl) (by simp only [upd, List.set_cons_zero, List.set_cons_succ]; exact rfl) ?_
  refine walk_s rfl rfl (op_stfm rfl tb124 (ev1 rfl) (ev1 rfl) (fun s v h => by cases h <;> exact ⟨rfl, rfl⟩) rfl (by decide)) (by simp only [upd, List.set_cons_zero, List.set_cons_succ]; exact rfl) ?_
  refine walk_nil ?_
  refine dwp_seq ?_
  refine dwp_holes 1 (by simp only [holes, List.cons_append, List.nil_append]; exact rfl) ?_
  refine dwp_region ?_
  refine walk_r rfl rfl rfl (op_move (.inl rfl) (ev1 rfl)) ?_
  refine walk_w rfl rfl rfl (dop_call [] [] [2] rfl (ev1 rfl) (ec (ev1 rfl) en) rfl rfl (told_d ps) rfl rfl rfl rfl rfl rfl) (by simp only [upd, List.set_cons_zero, List.set_cons_succ]; exact rfl) ?_
  refine walk_nil ?_
  refine dwp_block ?_
  refine dwp_hole ?_
  simp only [List.cons_append, List.nil_append]
  refine dwp_rf (FL := [(4, _)]) (st := .ready) (pe := none) [3, 1, 0, 2] [] [] 3 rfl rfl (ev1 rfl) rfl (subF_lk ⟨rfl, trivial⟩) rfl rfl rfl (told_feed ps hps hl hpl n bits hbits) rfl rfl rfl rfl rfl rfl rfl (by simp) (fun e => ?_) (fun c e => ?_)
  · simp only [upd, List.set_cons_zero, List.set_cons_succ]
    refine kend [0] (res_none rfl) rfl rfl ?_ ⟨rfl, trivial⟩
    rfl
  · cases e

theorem sum_lt {l : List Nat} (h : isN l) {s : Nat} (hs : s < 2 ^ 32) : fed (trn s) l < 2 ^ 32 := fed_lt l (trn_lt hs) h
theorem more_lt {l : List Nat} (h : isN l) {s : Nat} (hs : s < 2 ^ 32) : moreC s l < 2 ^ 32 := trn_lt (sum_lt h hs)

set_option maxRecDepth 4000 in
set_option maxHeartbeats 1000000 in
theorem sum_c (ps : List (List Nat)) (hps : ∀ p ∈ ps, isN p) (hl : ps.length ≤ 1000) (hpl : ∀ p ∈ ps, p.length ≤ 1000000) : DFun Try.prog 56 [.slm 1 ps.length (ps.flatMap fun p => [rN p])] [] (.val (.int .u32 (moreC 0 ps.flatten : Nat))) [] := by
  refine dcalls_go (N := 10) 0 (by kernel_rfl) Try.func56 rfl rfl rfl (by simp only [fr0, Nat.zero_add, Nat.reduceAdd]; exact rfl) rfl fun s0 hs0 => ?_
  refine dwp_lenm (t := 0) rfl fun hl0 hL0 => ?_
  refine dwp_seq ?_
  refine dwp_region ?_
  refine walk_r rfl rfl rfl (op_move (.inr rfl) (ev1 rfl)) ?_
  refine walk_nil ?_
  refine dwp_seq ?_
  refine dwp_holes 1 (by simp only [holes, List.cons_append, List.nil_append]; exact rfl) ?_
  refine dwp_region ?_
  refine walk_w rfl rfl rfl (dop_call [] [] [0] rfl (ev1 rfl) (ec (ev1 rfl) en) rfl rfl (fresh_d 0 (by decide)) rfl rfl rfl rfl rfl rfl) (by simp only [upd, List.set_cons_zero, List.set_cons_succ]; exact rfl) ?_
  refine walk_r rfl rfl rfl (op_move (.inr rfl) (ev1 rfl)) ?_
  refine walk_nil ?_
  refine dwp_seq ?_
  refine dwp_region ?_
  refine walk_r rfl rfl rfl (op_move (.inl rfl) (ev1 rfl)) ?_
  refine walk_r rfl rfl rfl (op_move (.inl rfl) (ev1 rfl)) ?_
  refine walk_w rfl rfl rfl (dop_call [0] [] [] rfl (ev1 rfl) (ec (ev1 rfl) (ec (ev1 rfl) en)) rfl rfl (feedall_d ps hps hl hpl 0 (trn 0) (by decide)) rfl rfl rfl rfl rfl rfl) (by simp only [upd, List.set_cons_zero, List.set_cons_succ]; exact rfl) ?_
  refine walk_nil ?_
  refine dwp_seq ?_
  refine dwp_region ?_
  refine walk_r rfl rfl rfl (op_move (.inl rfl) (ev1 rfl)) ?_
  refine walk_w rfl rfl rfl (dop_call [0] [] [] rfl (ev1 rfl) (ec (ev1 rfl) en) rfl rfl (sum_d _ _ _ (sum_lt (flat_lt hps) (by decide))) rfl rfl rfl rfl rfl rfl) (by simp only [upd, List.set_cons_zero, List.set_cons_succ]; exact rfl) ?_
  refine walk_r rfl rfl rfl (op_move (.inr rfl) (ev1 rfl)) ?_
  refine walk_nil ?_
  refine dwp_ret ?_
  refine kend0 (rs1 rfl (rv_t rfl)) rfl ?_
  rfl

end Go.Proofs.Ytgomklemldldiaa
