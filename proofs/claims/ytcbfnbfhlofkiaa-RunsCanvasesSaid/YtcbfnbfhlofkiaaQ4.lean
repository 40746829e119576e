/- a tile that is read; a tile that is read, whole; tiles and sizes that are read; tiles that are read, one behind the other; tiles that are read, all; canvases that are read; canvases as bytes; sizes of tiles; canvases and patches, whole; A variable that holds one value with an address, then numbers, then another value with an address: its numbers told as one list; wakes; what laws say of bytes; arguments that are opened. No condition. -/
import Derived.Test.YtcbfnbfhlofkiaaQ3
import Derived.Test.YtcbfnbfhlofkiaaRows
namespace Go.Proofs.Ytcbfnbfhlofkiaa
set_option maxRecDepth 4000
set_option linter.unusedVariables false
set_option linter.unusedSimpArgs false
open Go.RowKit
attribute [local irreducible] padT rdP rdN mayG
noncomputable def tlrA : Code := rfA (pth [1, 0, 1, 1, 1, 0, 1, 0] (bodyOf Try.f34))
noncomputable def tlrB : Code := rfB (pth [1, 0, 1, 1, 1, 0, 1, 0] (bodyOf Try.f34))
set_option maxRecDepth 4000 in
set_option maxHeartbeats 1000000 in
theorem tr_y (acc : List C4) (n : Int) (c : C4) (ha : acc.length < 64) (hm : mayG acc n c = true) (hn : acc.length + n.toNat < 64) : DRound Try.prog 0 [.val (.agg (runI (n, c)).toArray)] [.lp (some 34) 48 [(3, .loc 1 0), (4, .loc 2 0)] #[8] tlrA tlrB .ready none, .flat 29 (tc (padT acc)), .flat 3 [.int .i64 (acc.length : Int)]] true [.lp (some 34) 48 [(3, .loc 1 0), (4, .loc 2 0)] #[8] tlrA tlrB .ready none, .flat 29 (tc (padT (acc ++ List.replicate n.toNat c))), .flat 3 [.int .i64 ((acc.length + n.toNat : Nat) : Int)]] := by
  have hmg := mayG_iff.1 hm
  refine dround_go 3 rfl rfl (by simp) rfl rfl fun s0 hs0 => ?_
  refine zah 1 (by simp only [holes, List.cons_append, List.nil_append]; exact rfl) ?_
  refine zad ?_
  refine walk_w rfl rfl rfl (op_alloc 3 rfl zr68 rfl) (by simp only [upd, za, zaa]; exact rfl) ?_
  refine walk_s rfl rfl (op_stwa rfl tb68 (ev1 rfl) (ev1 rfl) rfl rfl rfl rfl) (by simp only [upd, za, zaa]; exact rfl) ?_
  refine zae ?_
  refine ⟨rfl, ?_⟩
  simp only [za, zaa]
  refine dwp_block ?_
  refine zaf ?_
  refine zaf ?_
  refine dwp_draw [([], []), ([3], []), ([], []), ([], []), ([], []), ([3], []), ([2], []), ([], []), ([], []), ([], []), ([], []), ([2], []), ([], []), ([], []), ([2], []), ([], []), ([], []), ([1], []), ([], []), ([3], []), ([], []), ([], []), ([], [])] mixed (by kernel_rfl) ?_
  refine zag rfl rfl (op_fa rfl fo68_0 (ev1 rfl)) ?_
  refine zag rfl rfl (op_ldo rfl tb3 (ev1 rfl) rfl rfl) ?_
  refine zag rfl rfl (op_lss rfl (ev1 rfl) (ev1 rfl)) ?_
  refine zag rfl rfl (zac (.inl rfl) (ev1 rfl)) ?_
  refine lex_gr (gd_f rfl rfl rfl) rfl rfl (op_fa rfl fo68_0 (ev1 rfl)) ?_
  refine lex_gr (gd_f rfl rfl rfl) rfl rfl (op_ldo rfl tb3 (ev2 rfl) rfl rfl) ?_
  refine lex_gr (gd_f rfl rfl rfl) rfl rfl (op_ldo rfl tb3 (ev1 rfl) rfl rfl) ?_
  refine lex_gr (gd_f rfl rfl rfl) rfl rfl (op_sub' rfl (ev1 rfl) (ev2 rfl) (fun hp => IntWalk.i64_in _ (by first | omega | (simp at hp; omega)))) ?_
  refine lex_gr (gd_f rfl rfl rfl) rfl rfl (op_gtr rfl (ev2 rfl) (ev2 rfl)) ?_
  refine zag rfl rfl (op_or rfl (ev1 rfl) (ev3 rfl id)) ?_
  refine zag rfl rfl (zac (.inl rfl) (ev1 rfl)) ?_
  refine lex_gr (gd_f rfl rfl rfl) rfl rfl (op_ldo rfl tb3 (ev1 rfl) rfl rfl) ?_
  refine lex_gr (gd_f rfl rfl rfl) rfl rfl (op_gtr rfl (ev2 rfl) (ev1 rfl)) ?_
  refine lex_gr (gd_f rfl rfl rfl) rfl rfl (zac (.inl rfl) (ev2 rfl)) ?_
  refine lex_gr (gd_tt rfl rfl rfl) rfl rfl (op_ldo rfl tb3 (ev1 rfl) rfl rfl) ?_
  refine lex_gr (gd_tt rfl rfl rfl) rfl rfl (op_sub' rfl (ev2 rfl) (ev1 rfl) (fun hp => IntWalk.i64_in _ (by first | omega | (simp at hp; omega)))) ?_
  refine lex_gr (gd_tt rfl rfl rfl) rfl rfl (op_ixfr (j := acc.length - 1) rfl ar29 (ev1 rfl) (ev2 rfl) (fun hp => by first | omega | (simp at hp; omega)) (fun hp => by first | omega | (simp at hp; omega))) ?_
  refine lex_gr (gd_tt rfl rfl rfl) rfl rfl (op_ldfr (zC4) rfl tb27 (ev2 rfl) rfl (fun _ => rfl) (fun _ => by rw [TL.h]; omega)) ?_
  refine lex_gr (gd_tt rfl rfl rfl) rfl rfl (op_fa rfl fo68_1 (ev1 rfl)) ?_
  refine lex_gr (gd_tt rfl rfl rfl) rfl rfl (op_ldr rfl tb27 (ev2 rfl) rfl rfl rfl) ?_
  refine lex_gr (gd_tt rfl rfl rfl) rfl rfl (op_eqr eq27 rfl gd27 tb27 (ev2 rfl) (ev2 rfl)) ?_
  refine lex_gr (gd_f rfl rfl rfl) rfl rfl (op_and rfl (ev2 rfl) (ev2 rfl)) ?_
  refine zag rfl rfl (op_or rfl (ev1 rfl) (ev3 rfl id)) ?_
  refine lex_nil ?_
  refine dwp_if_f rfl ((mayG_c ha).trans (by rw [hm]; rfl)) ?_
  refine dwp_skip ?_
  refine zaf ?_
  refine zaf ?_
  refine zad ?_
  refine zab rfl rfl rfl (op_fa rfl fo68_0 (ev1 rfl)) ?_
  refine zab rfl rfl rfl (op_ldo rfl tb3 (ev1 rfl) rfl rfl) ?_
  refine zab rfl rfl rfl (zac (.inl rfl) (ev1 rfl)) ?_
  refine zae ?_
  refine dwp_block ?_
  refine dwp_loopS ⟨hs0, rfl⟩ (α := Nat) (fun k => [(36, .val (.int .i64 (k : Int)))]) [(3, _), (4, _), (5, _), (35, _)] (fun k => [(1, .flat 29 (tc (padT (acc ++ List.replicate k c)))), (2, .flat 3 [.int .i64 ((acc.length + k : Nat) : Int)])]) [_, .hole, .hole, _] (fun k => k ≤ n.toNat) (fun k => n.toNat - k) 0 [0, 1, 2, 3] (Nat.zero_le _) rfl ⟨rfl, rfl, rfl, rfl, trivial⟩ ⟨rfl, trivial⟩ ⟨rfl, by rw [List.replicate_zero, List.append_nil]; rfl, rfl, rfl, trivial⟩ ?_
  intro k hx
  simp only [upd, za, zaa, List.cons_append, List.nil_append]
  have hk0 := hx
  refine zaf ?_
  refine zad ?_
  refine zab rfl rfl rfl (op_lss rfl (ev1 rfl) (ev1 rfl)) ?_
  refine zae ?_
  refine zaf ?_
  refine dwp_cond rfl (fun c2 => ?_) (fun c2 => ?_)
  · try simp only [decide_eq_true_eq, decide_eq_false_iff_not, beq_iff_eq, bne_iff_ne, beq_eq_false_iff_ne, bne_eq_false_iff_eq, Bool.not_eq_true', Bool.not_eq_false', Bool.and_eq_true, Bool.or_eq_true, Bool.or_eq_false_iff, ne_eq, Decidable.not_not, Int.not_lt, Int.not_le] at c2
    refine dwp_skip ?_
    refine zaf ?_
    refine dwp_block ?_
    refine zaf ?_
    refine zad ?_
    refine zab rfl rfl rfl (op_ldo rfl tb3 (ev1 rfl) rfl rfl) ?_
    refine zab rfl rfl rfl (op_fa rfl fo68_1 (ev1 rfl)) ?_
    refine zab rfl rfl rfl (op_ldr rfl tb27 (ev1 rfl) rfl rfl rfl) ?_
    refine zab rfl rfl rfl (op_ixfr (j := acc.length + k) rfl ar29 (ev1 rfl) (ev1 rfl) (fun _ => by omega) (fun _ => by omega)) ?_
    refine walk_s rfl rfl (op_stfr rfl tb27 (ev1 rfl) (ev1 rfl) rfl rfl rfl (fun _ => rfl) (fun _ => by rw [TL.h]; omega)) (by simp only [upd, za, zaa]; exact rfl) ?_
    refine zae ?_
    refine zad ?_
    refine zab rfl rfl rfl (op_ldo rfl tb3 (ev1 rfl) rfl rfl) ?_
    refine zab rfl rfl rfl (op_add' rfl (ev1 rfl) (ev1 rfl) (fun _ => IntWalk.i64_in _ (by omega))) ?_
    refine walk_s rfl rfl (op_stwi rfl tb3 (ev1 rfl) (ev1 rfl) rfl) (by simp only [upd, za, zaa]; exact rfl) ?_
    refine zae ?_
    refine zad ?_
    refine zab rfl rfl rfl (op_add' rfl (ev1 rfl) (ev1 rfl) (fun _ => IntWalk.i64_in _ (by omega))) ?_
    refine zab rfl rfl rfl (zac (.inl rfl) (ev1 rfl)) ?_
    refine zae ?_
    refine ⟨k + 1, [0, 1, 2, 3], by omega, by simp only []; omega, rfl, ⟨rfl, rfl, rfl, rfl, rfl, trivial⟩, ⟨rfl, by rw [tc_set, padT_rep (by omega)]; rfl, rfl, rfl, trivial⟩⟩
  · try simp only [decide_eq_true_eq, decide_eq_false_iff_not, beq_iff_eq, bne_iff_ne, beq_eq_false_iff_ne, bne_eq_false_iff_eq, Bool.not_eq_true', Bool.not_eq_false', Bool.and_eq_true, Bool.or_eq_true, Bool.or_eq_false_iff, ne_eq, Decidable.not_not, Int.not_lt, Int.not_le] at c2
    refine dwp_exit ?_
    refine zaf ?_
    refine zad ?_
    refine zab rfl rfl rfl (op_ldo rfl tb3 (ev1 rfl) rfl rfl) ?_
    refine zab rfl rfl rfl (op_eql rfl (ev1 rfl) (ev1 rfl)) ?_
    refine zae ?_
    refine dwp_if_f rfl (by simp; omega) ?_
    refine dwp_skip ?_
    obtain rfl : k = n.toNat := by omega
    refine ⟨by first | rfl | assumption | simp_all, rfl, [0, 1, 2], rfl, ⟨rfl, rfl, rfl, trivial⟩⟩
set_option maxRecDepth 4000 in
set_option maxHeartbeats 1000000 in
theorem tr_z (acc : List C4) (n : Int) (c : C4) (ha : acc.length < 64) (hm : mayG acc n c = true) (hn : acc.length + n.toNat = 64) : DRound Try.prog 0 [.val (.agg (runI (n, c)).toArray)] [.lp (some 34) 48 [(3, .loc 1 0), (4, .loc 2 0)] #[8] tlrA tlrB .ready none, .flat 29 (tc (padT acc)), .flat 3 [.int .i64 (acc.length : Int)]] false [.lp (some 34) 48 [(3, .loc 1 0), (4, .loc 2 0)] #[8] tlrA tlrB .done (some (.exit 0)), .flat 29 (tc (padT (acc ++ List.replicate n.toNat c))), .flat 3 [.int .i64 ((acc.length + n.toNat : Nat) : Int)]] := by
  have hmg := mayG_iff.1 hm
  refine dround_go 3 rfl rfl (by simp) rfl rfl fun s0 hs0 => ?_
  refine zah 1 (by simp only [holes, List.cons_append, List.nil_append]; exact rfl) ?_
  refine zad ?_
  refine walk_w rfl rfl rfl (op_alloc 3 rfl zr68 rfl) (by simp only [upd, za, zaa]; exact rfl) ?_
  refine walk_s rfl rfl (op_stwa rfl tb68 (ev1 rfl) (ev1 rfl) rfl rfl rfl rfl) (by simp only [upd, za, zaa]; exact rfl) ?_
  refine zae ?_
  refine ⟨rfl, ?_⟩
  simp only [za, zaa]
  refine dwp_block ?_
  refine zaf ?_
  refine zaf ?_
  refine dwp_draw [([], []), ([3], []), ([], []), ([], []), ([], []), ([3], []), ([2], []), ([], []), ([], []), ([], []), ([], []), ([2], []), ([], []), ([], []), ([2], []), ([], []), ([], []), ([1], []), ([], []), ([3], []), ([], []), ([], []), ([], [])] mixed (by kernel_rfl) ?_
  refine zag rfl rfl (op_fa rfl fo68_0 (ev1 rfl)) ?_
  refine zag rfl rfl (op_ldo rfl tb3 (ev1 rfl) rfl rfl) ?_
  refine zag rfl rfl (op_lss rfl (ev1 rfl) (ev1 rfl)) ?_
  refine zag rfl rfl (zac (.inl rfl) (ev1 rfl)) ?_
  refine lex_gr (gd_f rfl rfl rfl) rfl rfl (op_fa rfl fo68_0 (ev1 rfl)) ?_
  refine lex_gr (gd_f rfl rfl rfl) rfl rfl (op_ldo rfl tb3 (ev2 rfl) rfl rfl) ?_
  refine lex_gr (gd_f rfl rfl rfl) rfl rfl (op_ldo rfl tb3 (ev1 rfl) rfl rfl) ?_
  refine lex_gr (gd_f rfl rfl rfl) rfl rfl (op_sub' rfl (ev1 rfl) (ev2 rfl) (fun hp => IntWalk.i64_in _ (by first | omega | (simp at hp; omega)))) ?_
  refine lex_gr (gd_f rfl rfl rfl) rfl rfl (op_gtr rfl (ev2 rfl) (ev2 rfl)) ?_
  refine zag rfl rfl (op_or rfl (ev1 rfl) (ev3 rfl id)) ?_
  refine zag rfl rfl (zac (.inl rfl) (ev1 rfl)) ?_
  refine lex_gr (gd_f rfl rfl rfl) rfl rfl (op_ldo rfl tb3 (ev1 rfl) rfl rfl) ?_
  refine lex_gr (gd_f rfl rfl rfl) rfl rfl (op_gtr rfl (ev2 rfl) (ev1 rfl)) ?_
  refine lex_gr (gd_f rfl rfl rfl) rfl rfl (zac (.inl rfl) (ev2 rfl)) ?_
  refine lex_gr (gd_tt rfl rfl rfl) rfl rfl (op_ldo rfl tb3 (ev1 rfl) rfl rfl) ?_
  refine lex_gr (gd_tt rfl rfl rfl) rfl rfl (op_sub' rfl (ev2 rfl) (ev1 rfl) (fun hp => IntWalk.i64_in _ (by first | omega | (simp at hp; omega)))) ?_
  refine lex_gr (gd_tt rfl rfl rfl) rfl rfl (op_ixfr (j := acc.length - 1) rfl ar29 (ev1 rfl) (ev2 rfl) (fun hp => by first | omega | (simp at hp; omega)) (fun hp => by first | omega | (simp at hp; omega))) ?_
  refine lex_gr (gd_tt rfl rfl rfl) rfl rfl (op_ldfr (zC4) rfl tb27 (ev2 rfl) rfl (fun _ => rfl) (fun _ => by rw [TL.h]; omega)) ?_
  refine lex_gr (gd_tt rfl rfl rfl) rfl rfl (op_fa rfl fo68_1 (ev1 rfl)) ?_
  refine lex_gr (gd_tt rfl rfl rfl) rfl rfl (op_ldr rfl tb27 (ev2 rfl) rfl rfl rfl) ?_
  refine lex_gr (gd_tt rfl rfl rfl) rfl rfl (op_eqr eq27 rfl gd27 tb27 (ev2 rfl) (ev2 rfl)) ?_
  refine lex_gr (gd_f rfl rfl rfl) rfl rfl (op_and rfl (ev2 rfl) (ev2 rfl)) ?_
  refine zag rfl rfl (op_or rfl (ev1 rfl) (ev3 rfl id)) ?_
  refine lex_nil ?_
  refine dwp_if_f rfl ((mayG_c ha).trans (by rw [hm]; rfl)) ?_
  refine dwp_skip ?_
  refine zaf ?_
  refine zaf ?_
  refine zad ?_
  refine zab rfl rfl rfl (op_fa rfl fo68_0 (ev1 rfl)) ?_
  refine zab rfl rfl rfl (op_ldo rfl tb3 (ev1 rfl) rfl rfl) ?_
  refine zab rfl rfl rfl (zac (.inl rfl) (ev1 rfl)) ?_
  refine zae ?_
  refine dwp_block ?_
  refine dwp_loopS ⟨hs0, rfl⟩ (α := Nat) (fun k => [(36, .val (.int .i64 (k : Int)))]) [(3, _), (4, _), (5, _), (35, _)] (fun k => [(1, .flat 29 (tc (padT (acc ++ List.replicate k c)))), (2, .flat 3 [.int .i64 ((acc.length + k : Nat) : Int)])]) [_, .hole, .hole, _] (fun k => k ≤ n.toNat) (fun k => n.toNat - k) 0 [0, 1, 2, 3] (Nat.zero_le _) rfl ⟨rfl, rfl, rfl, rfl, trivial⟩ ⟨rfl, trivial⟩ ⟨rfl, by rw [List.replicate_zero, List.append_nil]; rfl, rfl, rfl, trivial⟩ ?_
  intro k hx
  simp only [upd, za, zaa, List.cons_append, List.nil_append]
  have hk0 := hx
  refine zaf ?_
  refine zad ?_
  refine zab rfl rfl rfl (op_lss rfl (ev1 rfl) (ev1 rfl)) ?_
  refine zae ?_
  refine zaf ?_
  refine dwp_cond rfl (fun c2 => ?_) (fun c2 => ?_)
  · try simp only [decide_eq_true_eq, decide_eq_false_iff_not, beq_iff_eq, bne_iff_ne, beq_eq_false_iff_ne, bne_eq_false_iff_eq, Bool.not_eq_true', Bool.not_eq_false', Bool.and_eq_true, Bool.or_eq_true, Bool.or_eq_false_iff, ne_eq, Decidable.not_not, Int.not_lt, Int.not_le] at c2
    refine dwp_skip ?_
    refine zaf ?_
    refine dwp_block ?_
    refine zaf ?_
    refine zad ?_
    refine zab rfl rfl rfl (op_ldo rfl tb3 (ev1 rfl) rfl rfl) ?_
    refine zab rfl rfl rfl (op_fa rfl fo68_1 (ev1 rfl)) ?_
    refine zab rfl rfl rfl (op_ldr rfl tb27 (ev1 rfl) rfl rfl rfl) ?_
    refine zab rfl rfl rfl (op_ixfr (j := acc.length + k) rfl ar29 (ev1 rfl) (ev1 rfl) (fun _ => by omega) (fun _ => by omega)) ?_
    refine walk_s rfl rfl (op_stfr rfl tb27 (ev1 rfl) (ev1 rfl) rfl rfl rfl (fun _ => rfl) (fun _ => by rw [TL.h]; omega)) (by simp only [upd, za, zaa]; exact rfl) ?_
    refine zae ?_
    refine zad ?_
    refine zab rfl rfl rfl (op_ldo rfl tb3 (ev1 rfl) rfl rfl) ?_
    refine zab rfl rfl rfl (op_add' rfl (ev1 rfl) (ev1 rfl) (fun _ => IntWalk.i64_in _ (by omega))) ?_
    refine walk_s rfl rfl (op_stwi rfl tb3 (ev1 rfl) (ev1 rfl) rfl) (by simp only [upd, za, zaa]; exact rfl) ?_
    refine zae ?_
    refine zad ?_
    refine zab rfl rfl rfl (op_add' rfl (ev1 rfl) (ev1 rfl) (fun _ => IntWalk.i64_in _ (by omega))) ?_
    refine zab rfl rfl rfl (zac (.inl rfl) (ev1 rfl)) ?_
    refine zae ?_
    refine ⟨k + 1, [0, 1, 2, 3], by omega, by simp only []; omega, rfl, ⟨rfl, rfl, rfl, rfl, rfl, trivial⟩, ⟨rfl, by rw [tc_set, padT_rep (by omega)]; rfl, rfl, rfl, trivial⟩⟩
  · try simp only [decide_eq_true_eq, decide_eq_false_iff_not, beq_iff_eq, bne_iff_ne, beq_eq_false_iff_ne, bne_eq_false_iff_eq, Bool.not_eq_true', Bool.not_eq_false', Bool.and_eq_true, Bool.or_eq_true, Bool.or_eq_false_iff, ne_eq, Decidable.not_not, Int.not_lt, Int.not_le] at c2
    refine dwp_exit ?_
    refine zaf ?_
    refine zad ?_
    refine zab rfl rfl rfl (op_ldo rfl tb3 (ev1 rfl) rfl rfl) ?_
    refine zab rfl rfl rfl (op_eql rfl (ev1 rfl) (ev1 rfl)) ?_
    refine zae ?_
    refine dwp_if_t rfl (by simp; omega) ?_
    refine dwp_exit ?_
    obtain rfl : k = n.toNat := by omega
    refine ⟨by first | rfl | assumption | simp_all, rfl, [0, 1, 2], rfl, ⟨rfl, rfl, rfl, trivial⟩⟩
set_option maxRecDepth 4000 in
set_option maxHeartbeats 1000000 in
theorem tr_p (acc : List C4) (n : Int) (c : C4) (ha : acc.length < 64) (hm : mayG acc n c = false) : DRoundP Try.prog 0 [.val (.agg (runI (n, c)).toArray)] [.lp (some 34) 48 [(3, .loc 1 0), (4, .loc 2 0)] #[8] tlrA tlrB .ready none, .flat 29 (tc (padT acc)), .flat 3 [.int .i64 (acc.length : Int)]] (.ifc 86 (.val (.agg #[]))) [.gone, .gone, .gone] := by
  refine dround_goP 3 Try.func34 rfl rfl (by simp) rfl rfl fun s0 hs0 => ?_
  refine zah 1 (by simp only [holes, List.cons_append, List.nil_append]; exact rfl) ?_
  refine zad ?_
  refine walk_w rfl rfl rfl (op_alloc 3 rfl zr68 rfl) (by simp only [upd, za, zaa]; exact rfl) ?_
  refine walk_s rfl rfl (op_stwa rfl tb68 (ev1 rfl) (ev1 rfl) rfl rfl rfl rfl) (by simp only [upd, za, zaa]; exact rfl) ?_
  refine zae ?_
  refine ⟨rfl, ?_⟩
  simp only [za, zaa]
  refine dwp_block ?_
  refine zaf ?_
  refine zaf ?_
  refine dwp_draw [([], []), ([3], []), ([], []), ([], []), ([], []), ([3], []), ([2], []), ([], []), ([], []), ([], []), ([], []), ([2], []), ([], []), ([], []), ([2], []), ([], []), ([], []), ([1], []), ([], []), ([3], []), ([], []), ([], []), ([], [])] mixed (by kernel_rfl) ?_
  refine zag rfl rfl (op_fa rfl fo68_0 (ev1 rfl)) ?_
  refine zag rfl rfl (op_ldo rfl tb3 (ev1 rfl) rfl rfl) ?_
  refine zag rfl rfl (op_lss rfl (ev1 rfl) (ev1 rfl)) ?_
  refine zag rfl rfl (zac (.inl rfl) (ev1 rfl)) ?_
  refine lex_gr (gd_f rfl rfl rfl) rfl rfl (op_fa rfl fo68_0 (ev1 rfl)) ?_
  refine lex_gr (gd_f rfl rfl rfl) rfl rfl (op_ldo rfl tb3 (ev2 rfl) rfl rfl) ?_
  refine lex_gr (gd_f rfl rfl rfl) rfl rfl (op_ldo rfl tb3 (ev1 rfl) rfl rfl) ?_
  refine lex_gr (gd_f rfl rfl rfl) rfl rfl (op_sub' rfl (ev1 rfl) (ev2 rfl) (fun hp => IntWalk.i64_in _ (by first | omega | (simp at hp; omega)))) ?_
  refine lex_gr (gd_f rfl rfl rfl) rfl rfl (op_gtr rfl (ev2 rfl) (ev2 rfl)) ?_
  refine zag rfl rfl (op_or rfl (ev1 rfl) (ev3 rfl id)) ?_
  refine zag rfl rfl (zac (.inl rfl) (ev1 rfl)) ?_
  refine lex_gr (gd_f rfl rfl rfl) rfl rfl (op_ldo rfl tb3 (ev1 rfl) rfl rfl) ?_
  refine lex_gr (gd_f rfl rfl rfl) rfl rfl (op_gtr rfl (ev2 rfl) (ev1 rfl)) ?_
  refine lex_gr (gd_f rfl rfl rfl) rfl rfl (zac (.inl rfl) (ev2 rfl)) ?_
  refine lex_gr (gd_tt rfl rfl rfl) rfl rfl (op_ldo rfl tb3 (ev1 rfl) rfl rfl) ?_
  refine lex_gr (gd_tt rfl rfl rfl) rfl rfl (op_sub' rfl (ev2 rfl) (ev1 rfl) (fun hp => IntWalk.i64_in _ (by first | omega | (simp at hp; omega)))) ?_
  refine lex_gr (gd_tt rfl rfl rfl) rfl rfl (op_ixfr (j := acc.length - 1) rfl ar29 (ev1 rfl) (ev2 rfl) (fun hp => by first | omega | (simp at hp; omega)) (fun hp => by first | omega | (simp at hp; omega))) ?_
  refine lex_gr (gd_tt rfl rfl rfl) rfl rfl (op_ldfr (zC4) rfl tb27 (ev2 rfl) rfl (fun _ => rfl) (fun _ => by rw [TL.h]; omega)) ?_
  refine lex_gr (gd_tt rfl rfl rfl) rfl rfl (op_fa rfl fo68_1 (ev1 rfl)) ?_
  refine lex_gr (gd_tt rfl rfl rfl) rfl rfl (op_ldr rfl tb27 (ev2 rfl) rfl rfl rfl) ?_
  refine lex_gr (gd_tt rfl rfl rfl) rfl rfl (op_eqr eq27 rfl gd27 tb27 (ev2 rfl) (ev2 rfl)) ?_
  refine lex_gr (gd_f rfl rfl rfl) rfl rfl (op_and rfl (ev2 rfl) (ev2 rfl)) ?_
  refine zag rfl rfl (op_or rfl (ev1 rfl) (ev3 rfl id)) ?_
  refine lex_nil ?_
  refine dwp_if_t rfl ((mayG_c ha).trans (by rw [hm]; rfl)) ?_
  refine zad ?_
  refine zab rfl rfl rfl (op_build0 rfl fl86 zr86) ?_
  refine zab rfl rfl rfl (op_mi rfl ni86 (ev1 rfl)) ?_
  refine walk_p rfl (op_pan rfl (ev1 rfl)) rfl ?_
  refine ⟨[0, 1, 2], [_, _, _], rfl, rfl, ⟨rfl, rfl, rfl, trivial⟩, rfl⟩
end Go.Proofs.Ytcbfnbfhlofkiaa
namespace Go.Proofs.Ytcbfnbfhlofkiaa
set_option maxRecDepth 4000
set_option linter.unusedVariables false
set_option linter.unusedSimpArgs false
open Go.RowKit
attribute [local irreducible] padT rdP rdN mayG
theorem kn3 : knd Try.prog 3 = some .i64 := by kernel_rfl
theorem tb93 : tyB Try.prog 93 = some (false, 1) := by kernel_rfl
theorem ty5 : (tyB Try.prog 5).isSome = true := by kernel_rfl
theorem zr3 : zrC Try.prog 3 = some [.int .i64 0] := by kernel_rfl
set_option maxRecDepth 4000 in
set_option maxHeartbeats 1000000 in
theorem runs1_no (B : List Int) (hB : B.length ≤ 4000000000000000000) (hi : isB B) (p0 : Nat) (hp : p0 ≤ B.length) (h0 : rdN B p0 = none) : DPanL Try.prog 62 [.yld 0, .loc 3 0] [.lp (some 34) 48 [(3, .loc 1 0), (4, .loc 2 0)] #[8] tlrA tlrB .ready none, .flat 29 (tc zT), .flat 3 [.int .i64 0], .mix 93 [.loc 4 0], .mix 71 [.val (.int .i64 0), .val (.int .i64 0), .val (.slice none 0 0), .slf 1 (B).length ((B).flatMap u8V), .val (.int .i64 (p0 : Int))]] (.ifc 86 (.val (.agg #[]))) := by
  refine dcalls_go (N := 27) 5 (by kernel_rfl) Try.func62 rfl rfl rfl (by simp only [fr0, Nat.zero_add, Nat.reduceAdd]; exact rfl) rfl fun s0 hs0 => ?_
  refine dwp_block ?_
  refine dwp_loopS ⟨hs0, rfl⟩ (α := Nat × List C4 × Nat) (fun x => []) [(0, _), (1, _)] (fun x => [(1, .flat 29 (tc (padT x.2.1))), (2, .flat 3 [.int .i64 (x.2.1.length : Int)]), (4, .mix 71 [.val (.int .i64 0), .val (.int .i64 0), .val (.slice none 0 0), .slf 1 (B).length ((B).flatMap u8V), .val (.int .i64 (x.2.2 : Int))])]) [_, .hole, .hole, _, .hole] (fun x => x.2.1.length < 64 ∧ x.2.2 ≤ B.length ∧ 64 ≤ x.1 + x.2.1.length ∧ rdP B x.1 x.2.1 x.2.2 = none) (fun x => 64 - x.2.1.length) (64, [], p0) [0, 1, 2, 3, 4] (⟨by show 0 < 64; decide, hp, Nat.le_refl 64, by unfold rdN at h0; exact h0⟩) rfl ⟨rfl, rfl, trivial⟩ trivial ⟨rfl, by rw [padT_nil]; rfl, rfl, rfl, rfl, trivial⟩ ?_
  intro x hx
  simp only [upd, za, zaa, List.cons_append, List.nil_append]
  obtain ⟨f, acc, p⟩ := x
  obtain ⟨ha, hpl, hf, hrd⟩ := hx
  dsimp only at ha hpl hf hrd ⊢
  refine dwp_block ?_
  refine zaf ?_
  by_cases h5 : p + 5 ≤ B.length
  · refine zad ?_
    refine zab rfl rfl rfl (op_ldm rfl tb93 (ev1 rfl) rfl rfl) ?_
    refine walk_w rfl rfl rfl (zaj [4] [] [] rfl (ev1 rfl) (ec (ev1 rfl) (ec (ev1 rfl) en)) rfl rfl (take5 B hB p h5) rfl rfl rfl rfl rfl rfl) (by simp only [upd, za, zaa]; exact rfl) ?_
    refine zab rfl rfl rfl (zac (.inr rfl) (ev1 rfl)) ?_
    refine zae ?_
    refine zaf ?_
    by_cases hm : mayG acc (runAt B p).1 (runAt B p).2 = true
    · have hmn : (runAt B p).1 = bAt B p := rfl
      obtain ⟨hn1, hn2, hn3⟩ := rdP_none hf ha hrd h5 hm
      have hmg := (mayG_iff.1 hm).1
      refine dwp_draw [([], []), ([], []), ([], []), ([], []), ([], []), ([], []), ([], []), ([], []), ([], []), ([], []), ([], []), ([], []), ([], []), ([], []), ([], []), ([], []), ([], []), ([], []), ([], []), ([0, 1, 2], [0, 1, 2]), ([], [])] mixed (by kernel_rfl) ?_
      refine zag rfl rfl (zac (.inl rfl) (ev1 rfl)) ?_
      refine zag rfl rfl (zac (.inl rfl) (ev1 rfl)) ?_
      refine zag rfl rfl (op_ixsr (l := (row5 B p)) (en := u8V) (j := 0) rfl sl23 (ev1 rfl) (ev1 rfl) (fun _ => rfl) (by decide) rfl (Nat.lt_of_succ_le (Nat.le_of_ble_eq_true rfl))) ?_
      refine zag rfl rfl ((op_ldod rfl tb5 (ev1 rfl) rfl).wk (Wk.of_eq (d' := .val (.int .u8 (bAt B p))) rfl)) ?_
      refine zag rfl rfl (op_conv' ty5 kn3 rfl (ev1 rfl) (fun _ => by have := bAt_in hi p; exact IntWalk.i64_in _ (by omega))) ?_
      refine zag rfl rfl (zac (.inl rfl) (ev1 rfl)) ?_
      refine zag rfl rfl (op_ixsr (l := (row5 B p)) (en := u8V) (j := 1) rfl sl23 (ev1 rfl) (ev1 rfl) (fun _ => rfl) (by decide) rfl (Nat.lt_of_succ_le (Nat.le_of_ble_eq_true rfl))) ?_
      refine zag rfl rfl (op_ldod rfl tb5 (ev1 rfl) rfl) ?_
      refine zag rfl rfl (zac (.inl rfl) (ev1 rfl)) ?_
      refine zag rfl rfl (op_ixsr (l := (row5 B p)) (en := u8V) (j := 2) rfl sl23 (ev1 rfl) (ev1 rfl) (fun _ => rfl) (by decide) rfl (Nat.lt_of_succ_le (Nat.le_of_ble_eq_true rfl))) ?_
      refine zag rfl rfl (op_ldod rfl tb5 (ev1 rfl) rfl) ?_
      refine zag rfl rfl (zac (.inl rfl) (ev1 rfl)) ?_
      refine zag rfl rfl (op_ixsr (l := (row5 B p)) (en := u8V) (j := 3) rfl sl23 (ev1 rfl) (ev1 rfl) (fun _ => rfl) (by decide) rfl (Nat.lt_of_succ_le (Nat.le_of_ble_eq_true rfl))) ?_
      refine zag rfl rfl (op_ldod rfl tb5 (ev1 rfl) rfl) ?_
      refine zag rfl rfl (zac (.inl rfl) (ev1 rfl)) ?_
      refine zag rfl rfl (op_ixsr (l := (row5 B p)) (en := u8V) (j := 4) rfl sl23 (ev1 rfl) (ev1 rfl) (fun _ => rfl) (by decide) rfl (Nat.lt_of_succ_le (Nat.le_of_ble_eq_true rfl))) ?_
      refine zag rfl rfl (op_ldod rfl tb5 (ev1 rfl) rfl) ?_
      refine zag rfl rfl (op_build (ps := [(0, .tmp 13), (1, .tmp 16), (2, .tmp 19), (3, .tmp 22)]) rfl fl27 zr27 (vc (ev1 rfl) (vc (ev1 rfl) (vc (ev1 rfl) (vc (ev1 rfl) vn)))) rfl rfl) ?_
      refine zag rfl rfl (op_build (ps := [(0, .tmp 10), (1, .tmp 23)]) rfl fl68 zr68 (vc (ev1 rfl) (vc (ev1 rfl) vn)) rfl rfl) ?_
      refine lex_w rfl rfl (op_y (i := 0) [0, 1, 2] [] [] rfl (ev1 rfl) (ec (ev1 rfl) en) rfl rfl rfl (tr_y acc (bAt B p) (runAt B p).2 ha hm (by omega)) rfl rfl rfl rfl rfl) rfl (by simp only [upd, za, zaa]; exact rfl) ?_
      refine zag rfl rfl (op_not rfl (ev1 rfl)) ?_
      refine lex_nil ?_
      refine dwp_if_f rfl (rfl) ?_
      refine dwp_skip ?_
      refine ⟨(f - 1, acc ++ List.replicate (runAt B p).1.toNat (runAt B p).2, p + 5), [0, 1, 2, 3, 4], ⟨by simp only [List.length_append, List.length_replicate]; exact hn1, h5, by simp only [List.length_append, List.length_replicate]; exact hn2, hn3⟩, by simp only [List.length_append, List.length_replicate]; omega, rfl, ⟨rfl, rfl, trivial⟩, ⟨rfl, rfl, by rw [List.length_append, List.length_replicate]; rfl, rfl, rfl, trivial⟩⟩
    · have hm : mayG acc (runAt B p).1 (runAt B p).2 = false := by simpa using hm
      refine dwp_drawP 19 [([], []), ([], []), ([], []), ([], []), ([], []), ([], []), ([], []), ([], []), ([], []), ([], []), ([], []), ([], []), ([], []), ([], []), ([], []), ([], []), ([], []), ([], []), ([], [])] mixed (by kernel_rfl) rfl rfl ?_
      refine zag rfl rfl (zac (.inl rfl) (ev1 rfl)) ?_
      refine zag rfl rfl (zac (.inl rfl) (ev1 rfl)) ?_
      refine zag rfl rfl (op_ixsr (l := (row5 B p)) (en := u8V) (j := 0) rfl sl23 (ev1 rfl) (ev1 rfl) (fun _ => rfl) (by decide) rfl (Nat.lt_of_succ_le (Nat.le_of_ble_eq_true rfl))) ?_
      refine zag rfl rfl ((op_ldod rfl tb5 (ev1 rfl) rfl).wk (Wk.of_eq (d' := .val (.int .u8 (bAt B p))) rfl)) ?_
      refine zag rfl rfl (op_conv' ty5 kn3 rfl (ev1 rfl) (fun _ => by have := bAt_in hi p; exact IntWalk.i64_in _ (by omega))) ?_
      refine zag rfl rfl (zac (.inl rfl) (ev1 rfl)) ?_
      refine zag rfl rfl (op_ixsr (l := (row5 B p)) (en := u8V) (j := 1) rfl sl23 (ev1 rfl) (ev1 rfl) (fun _ => rfl) (by decide) rfl (Nat.lt_of_succ_le (Nat.le_of_ble_eq_true rfl))) ?_
      refine zag rfl rfl (op_ldod rfl tb5 (ev1 rfl) rfl) ?_
      refine zag rfl rfl (zac (.inl rfl) (ev1 rfl)) ?_
      refine zag rfl rfl (op_ixsr (l := (row5 B p)) (en := u8V) (j := 2) rfl sl23 (ev1 rfl) (ev1 rfl) (fun _ => rfl) (by decide) rfl (Nat.lt_of_succ_le (Nat.le_of_ble_eq_true rfl))) ?_
      refine zag rfl rfl (op_ldod rfl tb5 (ev1 rfl) rfl) ?_
      refine zag rfl rfl (zac (.inl rfl) (ev1 rfl)) ?_
      refine zag rfl rfl (op_ixsr (l := (row5 B p)) (en := u8V) (j := 3) rfl sl23 (ev1 rfl) (ev1 rfl) (fun _ => rfl) (by decide) rfl (Nat.lt_of_succ_le (Nat.le_of_ble_eq_true rfl))) ?_
      refine zag rfl rfl (op_ldod rfl tb5 (ev1 rfl) rfl) ?_
      refine zag rfl rfl (zac (.inl rfl) (ev1 rfl)) ?_
      refine zag rfl rfl (op_ixsr (l := (row5 B p)) (en := u8V) (j := 4) rfl sl23 (ev1 rfl) (ev1 rfl) (fun _ => rfl) (by decide) rfl (Nat.lt_of_succ_le (Nat.le_of_ble_eq_true rfl))) ?_
      refine zag rfl rfl (op_ldod rfl tb5 (ev1 rfl) rfl) ?_
      refine zag rfl rfl (op_build (ps := [(0, .tmp 13), (1, .tmp 16), (2, .tmp 19), (3, .tmp 22)]) rfl fl27 zr27 (vc (ev1 rfl) (vc (ev1 rfl) (vc (ev1 rfl) (vc (ev1 rfl) vn)))) rfl rfl) ?_
      refine zag rfl rfl (op_build (ps := [(0, .tmp 10), (1, .tmp 23)]) rfl fl68 zr68 (vc (ev1 rfl) (vc (ev1 rfl) vn)) rfl rfl) ?_
      refine lex_nil ⟨_, _, _, rfl, op_yP (i := 0) [0, 1, 2] [] [] rfl (ev1 rfl) (ec (ev1 rfl) en) rfl rfl rfl (tr_p acc (bAt B p) (runAt B p).2 ha hm) rfl rfl rfl rfl rfl rfl, ?_⟩
      refine kpanL (Mo := [_, _, _, _, _]) [0, 1, 2, 3, 4] rfl rfl ?_ ⟨rfl, rfl, rfl, rfl, rfl, trivial⟩ rfl
      rfl
  · refine zad ?_
    refine zab rfl rfl rfl (op_ldm rfl tb93 (ev1 rfl) rfl rfl) ?_
    refine walk_p rfl (dop_callP [4] [] [] rfl (ev1 rfl) (ec (ev1 rfl) (ec (ev1 rfl) en)) rfl rfl ((take5_no B hB p hpl h5).dead) rfl rfl rfl rfl rfl rfl) rfl ?_
    refine kpanL (Mo := [_, _, _, _, _]) [0, 1, 2, 3, 4] rfl rfl ?_ ⟨rfl, rfl, rfl, rfl, rfl, trivial⟩ rfl
    rfl
set_option maxRecDepth 4000 in
set_option maxHeartbeats 1000000 in
theorem rtl_no (B : List Int) (hB : B.length ≤ 4000000000000000000) (hi : isB B) (p0 : Nat) (hp : p0 ≤ B.length) (h0 : rdN B p0 = none) : DPanL Try.prog 34 [.loc 0 0] [.mix 71 [.val (.int .i64 0), .val (.int .i64 0), .val (.slice none 0 0), .slf 1 (B).length ((B).flatMap u8V), .val (.int .i64 (p0 : Int))]] (.ifc 86 (.val (.agg #[]))) := by
  refine dcalls_goK (N := 48) 1 (by kernel_rfl) Try.func34 rfl rfl rfl (by simp only [fr0, Nat.zero_add, Nat.reduceAdd]; exact rfl) rfl fun s0 hs0 => ?_
  refine dwpK_seq ?_
  refine dwpK_of ?_
  refine zah 1 (by simp only [holes, List.cons_append, List.nil_append]; exact rfl) ?_
  refine zad ?_
  refine walk_w rfl rfl rfl (op_alloc 1 rfl zr29 rfl) (by simp only [upd, za, zaa]; exact rfl) ?_
  refine zae ?_
  refine dwpK_scope ?_
  refine dwpK_seq ?_
  refine dwpK_of ?_
  refine zah 1 (by simp only [holes, List.cons_append, List.nil_append]; exact rfl) ?_
  refine zad ?_
  refine walk_w rfl rfl rfl (op_alloc 2 rfl zr29 rfl) (by simp only [upd, za, zaa]; exact rfl) ?_
  refine zae ?_
  refine dwpK_seq ?_
  refine dwpK_of ?_
  refine zah 1 (by simp only [holes, List.cons_append, List.nil_append]; exact rfl) ?_
  refine zad ?_
  refine walk_w rfl rfl rfl (op_alloc 3 rfl zr3 rfl) (by simp only [upd, za, zaa]; exact rfl) ?_
  refine walk_s rfl rfl (op_stwi rfl tb3 (ev1 rfl) (ev1 rfl) rfl) (by simp only [upd, za, zaa]; exact rfl) ?_
  refine zae ?_
  refine dwpK_seq ?_
  refine dwpK_of ?_
  refine dwp_label ?_
  refine dwpK_seq ?_
  refine dwpK_seq ?_
  refine dwpK_of ?_
  refine zah 1 (by simp only [holes, List.cons_append, List.nil_append]; exact rfl) ?_
  refine zad ?_
  refine zab rfl rfl rfl (zac (.inl rfl) (ev1 rfl)) ?_
  refine walk_w rfl rfl rfl (zaj [0] [] [4] rfl (ev1 rfl) (ec (ev1 rfl) en) rfl rfl (runs_d B hB p0) rfl rfl rfl rfl rfl rfl) (by simp only [upd, za, zaa]; exact rfl) ?_
  refine zae ?_
  refine dwpK_block ?_
  refine dwpK_hole ?_
  simp only [List.cons_append, List.nil_append]
  refine dwpK_rfp (FL := [(3, _), (4, _)]) [5, 2, 3, 4, 0] [] [] 5 rfl rfl (ev1 rfl) rfl (subF_lk ⟨rfl, rfl, trivial⟩) rfl rfl rfl ((runs1_no B hB hi p0 hp h0).dead) rfl rfl rfl rfl rfl rfl rfl ?_
  simp only [upd, za, zaa]
  refine kpanL (Mo := [_]) [0] rfl rfl ?_ ⟨rfl, trivial⟩ rfl
  rfl
set_option maxRecDepth 4000 in
set_option maxHeartbeats 1000000 in
theorem runs1_okx (B : List Int) (hB : B.length ≤ 4000000000000000000) (w h : Int) (us : List TL) (hu : us.length ≤ 5000) (hi : isB B) (p0 : Nat) (hp : p0 ≤ B.length) (l : List C4) (q : Nat) (h0 : rdN B p0 = some (l, q)) : DFun Try.prog 62 [.yld 0, .loc 3 0] [.lp (some 34) 48 [(3, .loc 1 0), (4, .loc 2 0)] #[8] tlrA tlrB .ready none, .flat 29 (tc zT), .flat 3 [.int .i64 0], .mix 93 [.loc 4 0], .mix 71 [.val (.int .i64 w), .val (.int .i64 h), .arr 5, .slf 1 (B).length ((B).flatMap u8V), .val (.int .i64 (p0 : Int))], .arr 29 256 (us).length ((us).flatMap tc)] (.tup []) [.lp (some 34) 48 [(3, .loc 1 0), (4, .loc 2 0)] #[8] tlrA tlrB .done (some (.exit 0)), .flat 29 (tc (padT l)), .flat 3 [.int .i64 64], .mix 93 [.loc 4 0], .mix 71 [.val (.int .i64 w), .val (.int .i64 h), .arr 5, .slf 1 (B).length ((B).flatMap u8V), .val (.int .i64 (q : Int))], .arr 29 256 (us).length ((us).flatMap tc)] := by
  refine dcalls_go (N := 27) 6 (by kernel_rfl) Try.func62 rfl rfl rfl (by simp only [fr0, Nat.zero_add, Nat.reduceAdd]; exact rfl) rfl fun s0 hs0 => ?_
  refine dwp_block ?_
  refine dwp_loopS ⟨hs0, rfl⟩ (α := Nat × List C4 × Nat) (fun x => []) [(0, _), (1, _)] (fun x => [(1, .flat 29 (tc (padT x.2.1))), (2, .flat 3 [.int .i64 (x.2.1.length : Int)]), (4, .mix 71 [.val (.int .i64 w), .val (.int .i64 h), .arr 5, .slf 1 (B).length ((B).flatMap u8V), .val (.int .i64 (x.2.2 : Int))])]) [_, .hole, .hole, _, .hole, _] (fun x => x.2.1.length < 64 ∧ x.2.2 ≤ B.length ∧ rdP B x.1 x.2.1 x.2.2 = some (l, q)) (fun x => 64 - x.2.1.length) (64, [], p0) [0, 1, 2, 3, 4, 5] (⟨by show 0 < 64; decide, hp, by unfold rdN at h0; exact h0⟩) rfl ⟨rfl, rfl, trivial⟩ trivial ⟨rfl, by rw [padT_nil]; rfl, rfl, rfl, rfl, rfl, trivial⟩ ?_
  intro x hx
  simp only [upd, za, zaa, List.cons_append, List.nil_append]
  obtain ⟨f, acc, p⟩ := x
  obtain ⟨ha, hpl, hrd⟩ := hx
  dsimp only at ha hpl hrd ⊢
  obtain ⟨h5, hm, hz, hy⟩ := rdP_some hrd
  have hmg := (mayG_iff.1 hm).1
  refine dwp_block ?_
  refine zaf ?_
  refine zad ?_
  refine zab rfl rfl rfl (op_ldm rfl tb93 (ev1 rfl) rfl rfl) ?_
  refine walk_w rfl rfl rfl (zaj [4, 5] [] [] rfl (ev1 rfl) (ec (ev1 rfl) (ec (ev1 rfl) en)) rfl rfl (take5x B hB w h us hu p h5) rfl rfl rfl rfl rfl rfl) (by simp only [upd, za, zaa]; exact rfl) ?_
  refine zab rfl rfl rfl (zac (.inr rfl) (ev1 rfl)) ?_
  refine zae ?_
  refine zaf ?_
  by_cases hd : acc.length + (runAt B p).1.toNat = 64
  · refine dwp_draw [([], []), ([], []), ([], []), ([], []), ([], []), ([], []), ([], []), ([], []), ([], []), ([], []), ([], []), ([], []), ([], []), ([], []), ([], []), ([], []), ([], []), ([], []), ([], []), ([0, 1, 2], [0, 1, 2]), ([], [])] mixed (by kernel_rfl) ?_
    refine zag rfl rfl (zac (.inl rfl) (ev1 rfl)) ?_
    refine zag rfl rfl (zac (.inl rfl) (ev1 rfl)) ?_
    refine zag rfl rfl (op_ixsr (l := (row5 B p)) (en := u8V) (j := 0) rfl sl23 (ev1 rfl) (ev1 rfl) (fun _ => rfl) (by decide) rfl (Nat.lt_of_succ_le (Nat.le_of_ble_eq_true rfl))) ?_
    refine zag rfl rfl ((op_ldod rfl tb5 (ev1 rfl) rfl).wk (Wk.of_eq (d' := .val (.int .u8 (bAt B p))) rfl)) ?_
    refine zag rfl rfl (op_conv' ty5 kn3 rfl (ev1 rfl) (fun _ => by have := bAt_in hi p; exact IntWalk.i64_in _ (by omega))) ?_
    refine zag rfl rfl (zac (.inl rfl) (ev1 rfl)) ?_
    refine zag rfl rfl (op_ixsr (l := (row5 B p)) (en := u8V) (j := 1) rfl sl23 (ev1 rfl) (ev1 rfl) (fun _ => rfl) (by decide) rfl (Nat.lt_of_succ_le (Nat.le_of_ble_eq_true rfl))) ?_
    refine zag rfl rfl (op_ldod rfl tb5 (ev1 rfl) rfl) ?_
    refine zag rfl rfl (zac (.inl rfl) (ev1 rfl)) ?_
    refine zag rfl rfl (op_ixsr (l := (row5 B p)) (en := u8V) (j := 2) rfl sl23 (ev1 rfl) (ev1 rfl) (fun _ => rfl) (by decide) rfl (Nat.lt_of_succ_le (Nat.le_of_ble_eq_true rfl))) ?_
    refine zag rfl rfl (op_ldod rfl tb5 (ev1 rfl) rfl) ?_
    refine zag rfl rfl (zac (.inl rfl) (ev1 rfl)) ?_
    refine zag rfl rfl (op_ixsr (l := (row5 B p)) (en := u8V) (j := 3) rfl sl23 (ev1 rfl) (ev1 rfl) (fun _ => rfl) (by decide) rfl (Nat.lt_of_succ_le (Nat.le_of_ble_eq_true rfl))) ?_
    refine zag rfl rfl (op_ldod rfl tb5 (ev1 rfl) rfl) ?_
    refine zag rfl rfl (zac (.inl rfl) (ev1 rfl)) ?_
    refine zag rfl rfl (op_ixsr (l := (row5 B p)) (en := u8V) (j := 4) rfl sl23 (ev1 rfl) (ev1 rfl) (fun _ => rfl) (by decide) rfl (Nat.lt_of_succ_le (Nat.le_of_ble_eq_true rfl))) ?_
    refine zag rfl rfl (op_ldod rfl tb5 (ev1 rfl) rfl) ?_
    refine zag rfl rfl (op_build (ps := [(0, .tmp 13), (1, .tmp 16), (2, .tmp 19), (3, .tmp 22)]) rfl fl27 zr27 (vc (ev1 rfl) (vc (ev1 rfl) (vc (ev1 rfl) (vc (ev1 rfl) vn)))) rfl rfl) ?_
    refine zag rfl rfl (op_build (ps := [(0, .tmp 10), (1, .tmp 23)]) rfl fl68 zr68 (vc (ev1 rfl) (vc (ev1 rfl) vn)) rfl rfl) ?_
    refine lex_w rfl rfl (op_y (i := 0) [0, 1, 2] [] [] rfl (ev1 rfl) (ec (ev1 rfl) en) rfl rfl rfl (tr_z acc (bAt B p) (runAt B p).2 ha hm hd) rfl rfl rfl rfl rfl) rfl (by simp only [upd, za, zaa]; exact rfl) ?_
    refine zag rfl rfl (op_not rfl (ev1 rfl)) ?_
    refine lex_nil ?_
    refine dwp_if_t rfl (rfl) ?_
    refine dwp_ret ?_
    obtain ⟨rfl, rfl⟩ := hz hd
    have hd2 : acc.length + (bAt B p).toNat = 64 := hd
    rw [hd2]
    refine kend [0, 1, 2, 3, 4, 5] (res_none rfl) rfl rfl ?_ ⟨rfl, rfl, rfl, rfl, rfl, rfl, trivial⟩
    rfl
  · have hmn : (runAt B p).1 = bAt B p := rfl
    refine dwp_draw [([], []), ([], []), ([], []), ([], []), ([], []), ([], []), ([], []), ([], []), ([], []), ([], []), ([], []), ([], []), ([], []), ([], []), ([], []), ([], []), ([], []), ([], []), ([], []), ([0, 1, 2], [0, 1, 2]), ([], [])] mixed (by kernel_rfl) ?_
    refine zag rfl rfl (zac (.inl rfl) (ev1 rfl)) ?_
    refine zag rfl rfl (zac (.inl rfl) (ev1 rfl)) ?_
    refine zag rfl rfl (op_ixsr (l := (row5 B p)) (en := u8V) (j := 0) rfl sl23 (ev1 rfl) (ev1 rfl) (fun _ => rfl) (by decide) rfl (Nat.lt_of_succ_le (Nat.le_of_ble_eq_true rfl))) ?_
    refine zag rfl rfl ((op_ldod rfl tb5 (ev1 rfl) rfl).wk (Wk.of_eq (d' := .val (.int .u8 (bAt B p))) rfl)) ?_
    refine zag rfl rfl (op_conv' ty5 kn3 rfl (ev1 rfl) (fun _ => by have := bAt_in hi p; exact IntWalk.i64_in _ (by omega))) ?_
    refine zag rfl rfl (zac (.inl rfl) (ev1 rfl)) ?_
    refine zag rfl rfl (op_ixsr (l := (row5 B p)) (en := u8V) (j := 1) rfl sl23 (ev1 rfl) (ev1 rfl) (fun _ => rfl) (by decide) rfl (Nat.lt_of_succ_le (Nat.le_of_ble_eq_true rfl))) ?_
    refine zag rfl rfl (op_ldod rfl tb5 (ev1 rfl) rfl) ?_
    refine zag rfl rfl (zac (.inl rfl) (ev1 rfl)) ?_
    refine zag rfl rfl (op_ixsr (l := (row5 B p)) (en := u8V) (j := 2) rfl sl23 (ev1 rfl) (ev1 rfl) (fun _ => rfl) (by decide) rfl (Nat.lt_of_succ_le (Nat.le_of_ble_eq_true rfl))) ?_
    refine zag rfl rfl (op_ldod rfl tb5 (ev1 rfl) rfl) ?_
    refine zag rfl rfl (zac (.inl rfl) (ev1 rfl)) ?_
    refine zag rfl rfl (op_ixsr (l := (row5 B p)) (en := u8V) (j := 3) rfl sl23 (ev1 rfl) (ev1 rfl) (fun _ => rfl) (by decide) rfl (Nat.lt_of_succ_le (Nat.le_of_ble_eq_true rfl))) ?_
    refine zag rfl rfl (op_ldod rfl tb5 (ev1 rfl) rfl) ?_
    refine zag rfl rfl (zac (.inl rfl) (ev1 rfl)) ?_
    refine zag rfl rfl (op_ixsr (l := (row5 B p)) (en := u8V) (j := 4) rfl sl23 (ev1 rfl) (ev1 rfl) (fun _ => rfl) (by decide) rfl (Nat.lt_of_succ_le (Nat.le_of_ble_eq_true rfl))) ?_
    refine zag rfl rfl (op_ldod rfl tb5 (ev1 rfl) rfl) ?_
    refine zag rfl rfl (op_build (ps := [(0, .tmp 13), (1, .tmp 16), (2, .tmp 19), (3, .tmp 22)]) rfl fl27 zr27 (vc (ev1 rfl) (vc (ev1 rfl) (vc (ev1 rfl) (vc (ev1 rfl) vn)))) rfl rfl) ?_
    refine zag rfl rfl (op_build (ps := [(0, .tmp 10), (1, .tmp 23)]) rfl fl68 zr68 (vc (ev1 rfl) (vc (ev1 rfl) vn)) rfl rfl) ?_
    refine lex_w rfl rfl (op_y (i := 0) [0, 1, 2] [] [] rfl (ev1 rfl) (ec (ev1 rfl) en) rfl rfl rfl (tr_y acc (bAt B p) (runAt B p).2 ha hm (by omega)) rfl rfl rfl rfl rfl) rfl (by simp only [upd, za, zaa]; exact rfl) ?_
    refine zag rfl rfl (op_not rfl (ev1 rfl)) ?_
    refine lex_nil ?_
    refine dwp_if_f rfl (rfl) ?_
    refine dwp_skip ?_
    refine ⟨(f - 1, acc ++ List.replicate (runAt B p).1.toNat (runAt B p).2, p + 5), [0, 1, 2, 3, 4, 5], ⟨by simp only [List.length_append, List.length_replicate]; omega, h5, hy hd⟩, by simp only [List.length_append, List.length_replicate]; omega, rfl, ⟨rfl, rfl, trivial⟩, ⟨rfl, rfl, by rw [List.length_append, List.length_replicate]; rfl, rfl, rfl, rfl, trivial⟩⟩
set_option maxRecDepth 4000 in
set_option maxHeartbeats 1000000 in
theorem runs1_nox (B : List Int) (hB : B.length ≤ 4000000000000000000) (w h : Int) (us : List TL) (hu : us.length ≤ 5000) (hi : isB B) (p0 : Nat) (hp : p0 ≤ B.length) (h0 : rdN B p0 = none) : DPanL Try.prog 62 [.yld 0, .loc 3 0] [.lp (some 34) 48 [(3, .loc 1 0), (4, .loc 2 0)] #[8] tlrA tlrB .ready none, .flat 29 (tc zT), .flat 3 [.int .i64 0], .mix 93 [.loc 4 0], .mix 71 [.val (.int .i64 w), .val (.int .i64 h), .arr 5, .slf 1 (B).length ((B).flatMap u8V), .val (.int .i64 (p0 : Int))], .arr 29 256 (us).length ((us).flatMap tc)] (.ifc 86 (.val (.agg #[]))) := by
  refine dcalls_go (N := 27) 6 (by kernel_rfl) Try.func62 rfl rfl rfl (by simp only [fr0, Nat.zero_add, Nat.reduceAdd]; exact rfl) rfl fun s0 hs0 => ?_
  refine dwp_block ?_
  refine dwp_loopS ⟨hs0, rfl⟩ (α := Nat × List C4 × Nat) (fun x => []) [(0, _), (1, _)] (fun x => [(1, .flat 29 (tc (padT x.2.1))), (2, .flat 3 [.int .i64 (x.2.1.length : Int)]), (4, .mix 71 [.val (.int .i64 w), .val (.int .i64 h), .arr 5, .slf 1 (B).length ((B).flatMap u8V), .val (.int .i64 (x.2.2 : Int))])]) [_, .hole, .hole, _, .hole, _] (fun x => x.2.1.length < 64 ∧ x.2.2 ≤ B.length ∧ 64 ≤ x.1 + x.2.1.length ∧ rdP B x.1 x.2.1 x.2.2 = none) (fun x => 64 - x.2.1.length) (64, [], p0) [0, 1, 2, 3, 4, 5] (⟨by show 0 < 64; decide, hp, Nat.le_refl 64, by unfold rdN at h0; exact h0⟩) rfl ⟨rfl, rfl, trivial⟩ trivial ⟨rfl, by rw [padT_nil]; rfl, rfl, rfl, rfl, rfl, trivial⟩ ?_
  intro x hx
  simp only [upd, za, zaa, List.cons_append, List.nil_append]
  obtain ⟨f, acc, p⟩ := x
  obtain ⟨ha, hpl, hf, hrd⟩ := hx
  dsimp only at ha hpl hf hrd ⊢
  refine dwp_block ?_
  refine zaf ?_
  by_cases h5 : p + 5 ≤ B.length
  · refine zad ?_
    refine zab rfl rfl rfl (op_ldm rfl tb93 (ev1 rfl) rfl rfl) ?_
    refine walk_w rfl rfl rfl (zaj [4, 5] [] [] rfl (ev1 rfl) (ec (ev1 rfl) (ec (ev1 rfl) en)) rfl rfl (take5x B hB w h us hu p h5) rfl rfl rfl rfl rfl rfl) (by simp only [upd, za, zaa]; exact rfl) ?_
    refine zab rfl rfl rfl (zac (.inr rfl) (ev1 rfl)) ?_
    refine zae ?_
    refine zaf ?_
    by_cases hm : mayG acc (runAt B p).1 (runAt B p).2 = true
    · have hmn : (runAt B p).1 = bAt B p := rfl
      obtain ⟨hn1, hn2, hn3⟩ := rdP_none hf ha hrd h5 hm
      have hmg := (mayG_iff.1 hm).1
      refine dwp_draw [([], []), ([], []), ([], []), ([], []), ([], []), ([], []), ([], []), ([], []), ([], []), ([], []), ([], []), ([], []), ([], []), ([], []), ([], []), ([], []), ([], []), ([], []), ([], []), ([0, 1, 2], [0, 1, 2]), ([], [])] mixed (by kernel_rfl) ?_
      refine zag rfl rfl (zac (.inl rfl) (ev1 rfl)) ?_
      refine zag rfl rfl (zac (.inl rfl) (ev1 rfl)) ?_
      refine zag rfl rfl (op_ixsr (l := (row5 B p)) (en := u8V) (j := 0) rfl sl23 (ev1 rfl) (ev1 rfl) (fun _ => rfl) (by decide) rfl (Nat.lt_of_succ_le (Nat.le_of_ble_eq_true rfl))) ?_
      refine zag rfl rfl ((op_ldod rfl tb5 (ev1 rfl) rfl).wk (Wk.of_eq (d' := .val (.int .u8 (bAt B p))) rfl)) ?_
      refine zag rfl rfl (op_conv' ty5 kn3 rfl (ev1 rfl) (fun _ => by have := bAt_in hi p; exact IntWalk.i64_in _ (by omega))) ?_
      refine zag rfl rfl (zac (.inl rfl) (ev1 rfl)) ?_
      refine zag rfl rfl (op_ixsr (l := (row5 B p)) (en := u8V) (j := 1) rfl sl23 (ev1 rfl) (ev1 rfl) (fun _ => rfl) (by decide) rfl (Nat.lt_of_succ_le (Nat.le_of_ble_eq_true rfl))) ?_
      refine zag rfl rfl (op_ldod rfl tb5 (ev1 rfl) rfl) ?_
      refine zag rfl rfl (zac (.inl rfl) (ev1 rfl)) ?_
      refine zag rfl rfl (op_ixsr (l := (row5 B p)) (en := u8V) (j := 2) rfl sl23 (ev1 rfl) (ev1 rfl) (fun _ => rfl) (by decide) rfl (Nat.lt_of_succ_le (Nat.le_of_ble_eq_true rfl))) ?_
      refine zag rfl rfl (op_ldod rfl tb5 (ev1 rfl) rfl) ?_
      refine zag rfl rfl (zac (.inl rfl) (ev1 rfl)) ?_
      refine zag rfl rfl (op_ixsr (l := (row5 B p)) (en := u8V) (j := 3) rfl sl23 (ev1 rfl) (ev1 rfl) (fun _ => rfl) (by decide) rfl (Nat.lt_of_succ_le (Nat.le_of_ble_eq_true rfl))) ?_
      refine zag rfl rfl (op_ldod rfl tb5 (ev1 rfl) rfl) ?_
      refine zag rfl rfl (zac (.inl rfl) (ev1 rfl)) ?_
      refine zag rfl rfl (op_ixsr (l := (row5 B p)) (en := u8V) (j := 4) rfl sl23 (ev1 rfl) (ev1 rfl) (fun _ => rfl) (by decide) rfl (Nat.lt_of_succ_le (Nat.le_of_ble_eq_true rfl))) ?_
      refine zag rfl rfl (op_ldod rfl tb5 (ev1 rfl) rfl) ?_
      refine zag rfl rfl (op_build (ps := [(0, .tmp 13), (1, .tmp 16), (2, .tmp 19), (3, .tmp 22)]) rfl fl27 zr27 (vc (ev1 rfl) (vc (ev1 rfl) (vc (ev1 rfl) (vc (ev1 rfl) vn)))) rfl rfl) ?_
      refine zag rfl rfl (op_build (ps := [(0, .tmp 10), (1, .tmp 23)]) rfl fl68 zr68 (vc (ev1 rfl) (vc (ev1 rfl) vn)) rfl rfl) ?_
      refine lex_w rfl rfl (op_y (i := 0) [0, 1, 2] [] [] rfl (ev1 rfl) (ec (ev1 rfl) en) rfl rfl rfl (tr_y acc (bAt B p) (runAt B p).2 ha hm (by omega)) rfl rfl rfl rfl rfl) rfl (by simp only [upd, za, zaa]; exact rfl) ?_
      refine zag rfl rfl (op_not rfl (ev1 rfl)) ?_
      refine lex_nil ?_
      refine dwp_if_f rfl (rfl) ?_
      refine dwp_skip ?_
      refine ⟨(f - 1, acc ++ List.replicate (runAt B p).1.toNat (runAt B p).2, p + 5), [0, 1, 2, 3, 4, 5], ⟨by simp only [List.length_append, List.length_replicate]; exact hn1, h5, by simp only [List.length_append, List.length_replicate]; exact hn2, hn3⟩, by simp only [List.length_append, List.length_replicate]; omega, rfl, ⟨rfl, rfl, trivial⟩, ⟨rfl, rfl, by rw [List.length_append, List.length_replicate]; rfl, rfl, rfl, rfl, trivial⟩⟩
    · have hm : mayG acc (runAt B p).1 (runAt B p).2 = false := by simpa using hm
      refine dwp_drawP 19 [([], []), ([], []), ([], []), ([], []), ([], []), ([], []), ([], []), ([], []), ([], []), ([], []), ([], []), ([], []), ([], []), ([], []), ([], []), ([], []), ([], []), ([], []), ([], [])] mixed (by kernel_rfl) rfl rfl ?_
      refine zag rfl rfl (zac (.inl rfl) (ev1 rfl)) ?_
      refine zag rfl rfl (zac (.inl rfl) (ev1 rfl)) ?_
      refine zag rfl rfl (op_ixsr (l := (row5 B p)) (en := u8V) (j := 0) rfl sl23 (ev1 rfl) (ev1 rfl) (fun _ => rfl) (by decide) rfl (Nat.lt_of_succ_le (Nat.le_of_ble_eq_true rfl))) ?_
      refine zag rfl rfl ((op_ldod rfl tb5 (ev1 rfl) rfl).wk (Wk.of_eq (d' := .val (.int .u8 (bAt B p))) rfl)) ?_
      refine zag rfl rfl (op_conv' ty5 kn3 rfl (ev1 rfl) (fun _ => by have := bAt_in hi p; exact IntWalk.i64_in _ (by omega))) ?_
      refine zag rfl rfl (zac (.inl rfl) (ev1 rfl)) ?_
      refine zag rfl rfl (op_ixsr (l := (row5 B p)) (en := u8V) (j := 1) rfl sl23 (ev1 rfl) (ev1 rfl) (fun _ => rfl) (by decide) rfl (Nat.lt_of_succ_le (Nat.le_of_ble_eq_true rfl))) ?_
      refine zag rfl rfl (op_ldod rfl tb5 (ev1 rfl) rfl) ?_
      refine zag rfl rfl (zac (.inl rfl) (ev1 rfl)) ?_
      refine zag rfl rfl (op_ixsr (l := (row5 B p)) (en := u8V) (j := 2) rfl sl23 (ev1 rfl) (ev1 rfl) (fun _ => rfl) (by decide) rfl (Nat.lt_of_succ_le (Nat.le_of_ble_eq_true rfl))) ?_
      refine zag rfl rfl (op_ldod rfl tb5 (ev1 rfl) rfl) ?_
      refine zag rfl rfl (zac (.inl rfl) (ev1 rfl)) ?_
      refine zag rfl rfl (op_ixsr (l := (row5 B p)) (en := u8V) (j := 3) rfl sl23 (ev1 rfl) (ev1 rfl) (fun _ => rfl) (by decide) rfl (Nat.lt_of_succ_le (Nat.le_of_ble_eq_true rfl))) ?_
      refine zag rfl rfl (op_ldod rfl tb5 (ev1 rfl) rfl) ?_
      refine zag rfl rfl (zac (.inl rfl) (ev1 rfl)) ?_
      refine zag rfl rfl (op_ixsr (l := (row5 B p)) (en := u8V) (j := 4) rfl sl23 (ev1 rfl) (ev1 rfl) (fun _ => rfl) (by decide) rfl (Nat.lt_of_succ_le (Nat.le_of_ble_eq_true rfl))) ?_
      refine zag rfl rfl (op_ldod rfl tb5 (ev1 rfl) rfl) ?_
      refine zag rfl rfl (op_build (ps := [(0, .tmp 13), (1, .tmp 16), (2, .tmp 19), (3, .tmp 22)]) rfl fl27 zr27 (vc (ev1 rfl) (vc (ev1 rfl) (vc (ev1 rfl) (vc (ev1 rfl) vn)))) rfl rfl) ?_
      refine zag rfl rfl (op_build (ps := [(0, .tmp 10), (1, .tmp 23)]) rfl fl68 zr68 (vc (ev1 rfl) (vc (ev1 rfl) vn)) rfl rfl) ?_
      refine lex_nil ⟨_, _, _, rfl, op_yP (i := 0) [0, 1, 2] [] [] rfl (ev1 rfl) (ec (ev1 rfl) en) rfl rfl rfl (tr_p acc (bAt B p) (runAt B p).2 ha hm) rfl rfl rfl rfl rfl rfl, ?_⟩
      refine kpanL (Mo := [_, _, _, _, _, _]) [0, 1, 2, 3, 4, 5] rfl rfl ?_ ⟨rfl, rfl, rfl, rfl, rfl, rfl, trivial⟩ rfl
      rfl
  · refine zad ?_
    refine zab rfl rfl rfl (op_ldm rfl tb93 (ev1 rfl) rfl rfl) ?_
    refine walk_p rfl (dop_callP [4, 5] [] [] rfl (ev1 rfl) (ec (ev1 rfl) (ec (ev1 rfl) en)) rfl rfl ((take5_nox B hB w h us hu p hpl h5).dead) rfl rfl rfl rfl rfl rfl) rfl ?_
    refine kpanL (Mo := [_, _, _, _, _, _]) [0, 1, 2, 3, 4, 5] rfl rfl ?_ ⟨rfl, rfl, rfl, rfl, rfl, rfl, trivial⟩ rfl
    rfl
set_option maxRecDepth 4000 in
set_option maxHeartbeats 1000000 in
theorem rtl_okx (B : List Int) (hB : B.length ≤ 4000000000000000000) (w h : Int) (us : List TL) (hu : us.length ≤ 5000) (hi : isB B) (p0 : Nat) (hp : p0 ≤ B.length) (l : List C4) (q : Nat) (h0 : rdN B p0 = some (l, q)) : DFun Try.prog 34 [.loc 0 0] [.mix 71 [.val (.int .i64 w), .val (.int .i64 h), .arr 1, .slf 1 (B).length ((B).flatMap u8V), .val (.int .i64 (p0 : Int))], .arr 29 256 (us).length ((us).flatMap tc)] (.val (.agg (tc (padT l)).toArray)) [.mix 71 [.val (.int .i64 w), .val (.int .i64 h), .arr 1, .slf 1 (B).length ((B).flatMap u8V), .val (.int .i64 (q : Int))], .arr 29 256 (us).length ((us).flatMap tc)] := by
  refine dcalls_goK (N := 48) 2 (by kernel_rfl) Try.func34 rfl rfl rfl (by simp only [fr0, Nat.zero_add, Nat.reduceAdd]; exact rfl) rfl fun s0 hs0 => ?_
  refine dwpK_seq ?_
  refine dwpK_of ?_
  refine zah 1 (by simp only [holes, List.cons_append, List.nil_append]; exact rfl) ?_
  refine zad ?_
  refine walk_w rfl rfl rfl (op_alloc 2 rfl zr29 rfl) (by simp only [upd, za, zaa]; exact rfl) ?_
  refine zae ?_
  refine dwpK_scope ?_
  refine dwpK_seq ?_
  refine dwpK_of ?_
  refine zah 1 (by simp only [holes, List.cons_append, List.nil_append]; exact rfl) ?_
  refine zad ?_
  refine walk_w rfl rfl rfl (op_alloc 3 rfl zr29 rfl) (by simp only [upd, za, zaa]; exact rfl) ?_
  refine zae ?_
  refine dwpK_seq ?_
  refine dwpK_of ?_
  refine zah 1 (by simp only [holes, List.cons_append, List.nil_append]; exact rfl) ?_
  refine zad ?_
  refine walk_w rfl rfl rfl (op_alloc 4 rfl zr3 rfl) (by simp only [upd, za, zaa]; exact rfl) ?_
  refine walk_s rfl rfl (op_stwi rfl tb3 (ev1 rfl) (ev1 rfl) rfl) (by simp only [upd, za, zaa]; exact rfl) ?_
  refine zae ?_
  refine dwpK_seq ?_
  refine dwpK_of ?_
  refine dwp_label ?_
  refine dwpK_seq ?_
  refine dwpK_seq ?_
  refine dwpK_of ?_
  refine zah 1 (by simp only [holes, List.cons_append, List.nil_append]; exact rfl) ?_
  refine zad ?_
  refine zab rfl rfl rfl (zac (.inl rfl) (ev1 rfl)) ?_
  refine walk_w rfl rfl rfl (zaj [0, 1] [] [5] rfl (ev1 rfl) (ec (ev1 rfl) en) rfl rfl (runs_dx B hB w h us hu p0) rfl rfl rfl rfl rfl rfl) (by simp only [upd, za, zaa]; exact rfl) ?_
  refine zae ?_
  refine dwpK_block ?_
  refine dwpK_hole ?_
  simp only [List.cons_append, List.nil_append]
  refine dwpK_rfn (FL := [(3, _), (4, _)]) (st := .done) (pe := (some (.exit 0))) [6, 3, 4, 5, 0, 1] [] [] 6 rfl rfl (ev1 rfl) rfl (subF_lk ⟨rfl, rfl, trivial⟩) rfl rfl rfl (runs1_okx B hB w h us hu hi p0 hp l q h0) rfl rfl rfl rfl rfl rfl rfl (by simp) (fun e => ?_) (fun c e => ?_)
  · cases e
  · cases e
    simp only [upd, za, zaa]
    refine dwp_exit ?_
    refine dwpK_of ?_
    refine zaf ?_
    refine zad ?_
    refine zab rfl rfl rfl (op_ldw rfl tb29 (ev1 rfl) rfl (tc_len _)) ?_
    refine walk_s rfl rfl (op_stwa rfl tb29 (ev1 rfl) (ev1 rfl) rfl (tc_len _) (tc_oc _) ((tc_len _).trans (tc_len _).symm)) (by simp only [upd, za, zaa]; exact rfl) ?_
    refine zae ?_
    refine dwp_ret ?_
    refine kend [0, 1] (rs1 rfl (rv_w tb29 rfl rfl (tc_len _))) rfl rfl ?_ ⟨rfl, rfl, trivial⟩
    rfl
set_option maxRecDepth 4000 in
set_option maxHeartbeats 1000000 in
theorem rtl_nox (B : List Int) (hB : B.length ≤ 4000000000000000000) (w h : Int) (us : List TL) (hu : us.length ≤ 5000) (hi : isB B) (p0 : Nat) (hp : p0 ≤ B.length) (h0 : rdN B p0 = none) : DPanL Try.prog 34 [.loc 0 0] [.mix 71 [.val (.int .i64 w), .val (.int .i64 h), .arr 1, .slf 1 (B).length ((B).flatMap u8V), .val (.int .i64 (p0 : Int))], .arr 29 256 (us).length ((us).flatMap tc)] (.ifc 86 (.val (.agg #[]))) := by
  refine dcalls_goK (N := 48) 2 (by kernel_rfl) Try.func34 rfl rfl rfl (by simp only [fr0, Nat.zero_add, Nat.reduceAdd]; exact rfl) rfl fun s0 hs0 => ?_
  refine dwpK_seq ?_
  refine dwpK_of ?_
  refine zah 1 (by simp only [holes, List.cons_append, List.nil_append]; exact rfl) ?_
  refine zad ?_
  refine walk_w rfl rfl rfl (op_alloc 2 rfl zr29 rfl) (by simp only [upd, za, zaa]; exact rfl) ?_
  refine zae ?_
  refine dwpK_scope ?_
  refine dwpK_seq ?_
  refine dwpK_of ?_
  refine zah 1 (by simp only [holes, List.cons_append, List.nil_append]; exact rfl) ?_
  refine zad ?_
  refine walk_w rfl rfl rfl (op_alloc 3 rfl zr29 rfl) (by simp only [upd, za, zaa]; exact rfl) ?_
  refine zae ?_
  refine dwpK_seq ?_
  refine dwpK_of ?_
  refine zah 1 (by simp only [holes, List.cons_append, List.nil_append]; exact rfl) ?_
  refine zad ?_
  refine walk_w rfl rfl rfl (op_alloc 4 rfl zr3 rfl) (by simp only [upd, za, zaa]; exact rfl) ?_
  refine walk_s rfl rfl (op_stwi rfl tb3 (ev1 rfl) (ev1 rfl) rfl) (by simp only [upd, za, zaa]; exact rfl) ?_
  refine zae ?_
  refine dwpK_seq ?_
  refine dwpK_of ?_
  refine dwp_label ?_
  refine dwpK_seq ?_
  refine dwpK_seq ?_
  refine dwpK_of ?_
  refine zah 1 (by simp only [holes, List.cons_append, List.nil_append]; exact rfl) ?_
  refine zad ?_
  refine zab rfl rfl rfl (zac (.inl rfl) (ev1 rfl)) ?_
  refine walk_w rfl rfl rfl (zaj [0, 1] [] [5] rfl (ev1 rfl) (ec (ev1 rfl) en) rfl rfl (runs_dx B hB w h us hu p0) rfl rfl rfl rfl rfl rfl) (by simp only [upd, za, zaa]; exact rfl) ?_
  refine zae ?_
  refine dwpK_block ?_
  refine dwpK_hole ?_
  simp only [List.cons_append, List.nil_append]
  refine dwpK_rfp (FL := [(3, _), (4, _)]) [6, 3, 4, 5, 0, 1] [] [] 6 rfl rfl (ev1 rfl) rfl (subF_lk ⟨rfl, rfl, trivial⟩) rfl rfl rfl ((runs1_nox B hB w h us hu hi p0 hp h0).dead) rfl rfl rfl rfl rfl rfl rfl ?_
  simp only [upd, za, zaa]
  refine kpanL (Mo := [_, _]) [0, 1] rfl rfl ?_ ⟨rfl, rfl, trivial⟩ rfl
  rfl
end Go.Proofs.Ytcbfnbfhlofkiaa
namespace Go.Proofs.Ytcbfnbfhlofkiaa
set_option maxRecDepth 4000
set_option linter.unusedVariables false
set_option linter.unusedSimpArgs false
open Go.RowKit
attribute [local irreducible] padT rdP rdN mayG
theorem fl71 : fdL Try.prog 71 = some [(0, 3), (3, 1), (4, 1)] := by kernel_rfl
theorem fo71_0 : fdO Try.prog 71 0 = some 0 := by kernel_rfl
theorem tb33 : tyB Try.prog 33 = some (false, 1) := by kernel_rfl
theorem tb71 : tyB Try.prog 71 = some (true, 5) := by kernel_rfl
theorem zr33 : zrC Try.prog 33 = some [.int .i64 0] := by kernel_rfl
theorem zr71 : zrC Try.prog 71 = some [.int .i64 0, .int .i64 0, .slice none 0 0, .slice none 0 0, .int .i64 0] := by kernel_rfl
set_option maxRecDepth 4000 in
set_option maxHeartbeats 1000000 in
theorem rt1_caught (t : TL) (n e : Int) : DDef Try.prog 32 [.loc 0 0, .loc 1 0, .loc 2 0] [.flat 29 (tc t), .flat 3 [.int .i64 n], .flat 33 [.int .i64 e]] (some (.ifc 86 (.val (.agg #[])))) none [.flat 29 (tc zT), .flat 3 [.int .i64 0], .flat 33 [.int .i64 200]] := by
  refine ddef_go (dr := .tup []) (t := 3) (N := 6) 3 (by kernel_rfl) Try.func32 rfl rfl rfl (by simp only [fr0, Nat.zero_add, Nat.reduceAdd]; exact rfl) rfl rfl rfl rfl rfl fun s0 hs0 => ?_
  refine zab rfl rfl rfl (zaj [] [] [] rfl (ev1 rfl) (ec (ev1 rfl) en) rfl rfl (failed_y) rfl rfl rfl rfl rfl rfl) ?_
  refine zae ?_
  refine dwp_if_t rfl (rfl) ?_
  refine zad ?_
  refine zab rfl rfl rfl (op_build0a rfl ar29 zr29) ?_
  refine walk_s rfl rfl (op_stwa rfl tb29 (ev1 rfl) (ev1 rfl) rfl (tc_len _) (tc_oc _) ((tc_len _).trans (tc_len _).symm)) (by simp only [upd, za, zaa]; exact rfl) ?_
  refine walk_s rfl rfl (op_stwi rfl tb3 (ev1 rfl) (ev1 rfl) rfl) (by simp only [upd, za, zaa]; exact rfl) ?_
  refine walk_s rfl rfl (op_stwi rfl tb33 (ev1 rfl) (ev1 rfl) rfl) (by simp only [upd, za, zaa]; exact rfl) ?_
  refine zae ?_
  refine kend [0, 1, 2] (res_none rfl) rfl rfl ?_ ⟨rfl, rfl, rfl, trivial⟩
  rfl
set_option maxRecDepth 4000 in
set_option maxHeartbeats 1000000 in
theorem rdt_no (B : List Int) (hB : B.length ≤ 4000000000000000000) (hi : isB B) (h0 : rdN B 0 = none) : DFun Try.prog 14 [.slf 1 (B).length ((B).flatMap u8V)] [] (.tup [.val (.agg (tc zT).toArray), .val (.int .i64 0), .val (.int .i64 200)]) [] := by
  refine dcalls_body (N := 13) 0 (by kernel_rfl) Try.func14 rfl rfl rfl (by simp only [fr0, Nat.zero_add, Nat.reduceAdd]; exact rfl) rfl fun s0 hs0 => ?_
  refine dbody_seq rfl hs0 ?_
  refine zah 3 (by simp only [holes, List.cons_append, List.nil_append]; exact rfl) ?_
  refine zad ?_
  refine walk_w rfl rfl rfl (op_alloc 0 rfl zr29 rfl) (by simp only [upd, za, zaa]; exact rfl) ?_
  refine walk_w rfl rfl rfl (op_alloc 1 rfl zr3 rfl) (by simp only [upd, za, zaa]; exact rfl) ?_
  refine walk_w rfl rfl rfl (op_alloc 2 rfl zr33 rfl) (by simp only [upd, za, zaa]; exact rfl) ?_
  refine zae ?_
  refine dbody_defer (l0 := [_]) rfl rfl rfl rfl rfl hs0 ?_
  refine zab rfl rfl rfl (op_mkf rfl en (ec (ev1 rfl) (ec (ev1 rfl) (ec (ev1 rfl) en)))) ?_
  refine zae ⟨_, _, _, 3, ev1 rfl, Nat.le_trans hs0 (by decide), rfl, ?_⟩
  have hs1 : s0.M.length ≤ 3 := Nat.le_trans hs0 (by decide)
  refine dbody_end rfl hs0 ?_
  refine zaf ?_
  refine zah 1 (by simp only [holes, List.cons_append, List.nil_append]; exact rfl) ?_
  refine zad ?_
  refine zab rfl rfl rfl (zac (.inl rfl) (ev1 rfl)) ?_
  refine zab rfl rfl rfl (op_bldD (ps := [(1, .tmp 7)]) rfl fl71 zr71 (ec (ev1 rfl) en) rfl rfl rfl) ?_
  refine walk_w rfl rfl rfl (op_alloc 3 rfl zr71 rfl) (by simp only [upd, za, zaa]; exact rfl) ?_
  refine walk_s rfl rfl (op_stam rfl tb71 (ev1 rfl) (ev1 rfl) rfl rfl rfl rfl) (by simp only [upd, za, zaa]; exact rfl) ?_
  refine zae ?_
  refine zaf ?_
  refine zad ?_
  refine walk_p rfl (dop_callP [3] [] [] rfl (ev1 rfl) (ec (ev1 rfl) en) rfl rfl ((rtl_no B hB hi 0 (Nat.zero_le _) h0).dead) rfl rfl rfl rfl rfl rfl) rfl ?_
  refine kdef (dturn_caught [0, 1, 2] [] rfl rfl rfl (rt1_caught _ _ _) rfl rfl rfl rfl rfl) ?_
  refine kend0 (rs3 rfl (rv_w tb29 rfl rfl (tc_len _)) (rv_1 tb3 rfl rfl rfl) (rv_1 tb33 rfl rfl rfl)) rfl ?_
  rfl
theorem okd_wk {I : Nat → Prop} {w h : Int} {ts : List TL} {d : D} (hf : Okd (NewCv I w h ts) d) : Wk d (.tup [cvD w h (dpR ts), .val (.int .i64 0)]) := by
  obtain ⟨_, ⟨A, hA, _, rfl⟩, rfl⟩ := hf
  exact Wk.tup (.cons ((pinsR_ok hA).wkd w h) (.cons (.refl _) .nil))
theorem cnew_d (w h : Int) (n : Nat) (hm : mayS w h = true) (hn : w * h = (n : Int)) : DFun Try.prog 60 [.val (.int .i64 w), .val (.int .i64 h)] [] (.tup [cvD w h (dpR (List.replicate n (nT zC4))), .val (.int .i64 0)]) [] := (cnew_i w h n hm hn).fun fun I d hf => okd_wk hf
set_option maxRecDepth 4000 in
set_option maxHeartbeats 1000000 in
theorem sizes_ok (B : List Int) (hB : B.length ≤ 4000000000000000000) (hi : isB B) (n : Nat) (h2 : 0 + 2 ≤ B.length) (hm : mayS (bAt B 0) (bAt B 1) = true) (hn : bAt B 0 * bAt B 1 = (n : Int)) : DFun Try.prog 45 [.loc 0 0] [.mix 71 [.val (.int .i64 0), .val (.int .i64 0), .val (.slice none 0 0), .slf 1 (B).length ((B).flatMap u8V), .val (.int .i64 (0 : Int))]] (.tup []) [.mix 71 [.val (.int .i64 (bAt B 0)), .val (.int .i64 (bAt B 1)), .val (.slice none 0 0), .slf 1 (B).length ((B).flatMap u8V), .val (.int .i64 (2 : Int))]] := by
  refine dcalls_go (N := 41) 1 (by kernel_rfl) Try.func45 rfl rfl rfl (by simp only [fr0, Nat.zero_add, Nat.reduceAdd]; exact rfl) rfl fun s0 hs0 => ?_
  refine zaf ?_
  refine zad ?_
  refine zab rfl rfl rfl (zac (.inl rfl) (ev1 rfl)) ?_
  refine walk_w rfl rfl rfl (zaj [0] [] [] rfl (ev1 rfl) (ec (ev1 rfl) (ec (ev1 rfl) en)) rfl rfl (take2 B hB 0 h2) rfl rfl rfl rfl rfl rfl) (by simp only [upd, za, zaa]; exact rfl) ?_
  refine zab rfl rfl rfl (zac (.inr rfl) (ev1 rfl)) ?_
  refine zae ?_
  refine zaf ?_
  refine dwp_draw [([], []), ([], []), ([], []), ([], []), ([], []), ([], []), ([], []), ([], []), ([], []), ([], []), ([], []), ([], []), ([], []), ([0], [0]), ([], []), ([], []), ([], []), ([0], [0])] mixed (by kernel_rfl) ?_
  refine zag rfl rfl (zac (.inl rfl) (ev1 rfl)) ?_
  refine zag rfl rfl (zac (.inl rfl) (ev1 rfl)) ?_
  refine zag rfl rfl (zac (.inl rfl) (ev1 rfl)) ?_
  refine zag rfl rfl (op_ixsr (l := (row2 B 0)) (en := u8V) (j := 0) rfl sl23 (ev1 rfl) (ev1 rfl) (fun _ => rfl) (by decide) rfl (Nat.lt_of_succ_le (Nat.le_of_ble_eq_true rfl))) ?_
  refine zag rfl rfl ((op_ldod rfl tb5 (ev1 rfl) rfl).wk (Wk.of_eq (d' := .val (.int .u8 (bAt B 0))) rfl)) ?_
  refine zag rfl rfl (op_conv' ty5 kn3 rfl (ev1 rfl) (fun _ => by have := bAt_in hi 0; exact IntWalk.i64_in _ (by omega))) ?_
  refine zag rfl rfl (zac (.inl rfl) (ev1 rfl)) ?_
  refine zag rfl rfl (op_ixsr (l := (row2 B 0)) (en := u8V) (j := 1) rfl sl23 (ev1 rfl) (ev1 rfl) (fun _ => rfl) (by decide) rfl (Nat.lt_of_succ_le (Nat.le_of_ble_eq_true rfl))) ?_
  refine zag rfl rfl ((op_ldod rfl tb5 (ev1 rfl) rfl).wk (Wk.of_eq (d' := .val (.int .u8 (bAt B 1))) rfl)) ?_
  refine zag rfl rfl (op_conv' ty5 kn3 rfl (ev1 rfl) (fun _ => by have := bAt_in hi 1; exact IntWalk.i64_in _ (by omega))) ?_
  refine zag rfl rfl (op_nc rfl (ev1 rfl) (fun s v h => by cases h; exact ⟨_, rfl⟩)) ?_
  refine zag rfl rfl (op_fa rfl fo71_0 (ev1 rfl)) ?_
  refine zag rfl rfl (op_fa rfl fo41_0 (ev1 rfl)) ?_
  refine lex_s rfl rfl (op_stm rfl tb3 (ev1 rfl) (ev1 rfl) (fun s v h => by cases h <;> exact ⟨rfl, rfl⟩) rfl (by first | decide | exact Nat.le_of_ble_eq_true rfl | simp)) rfl (by simp only [upd, za, zaa]; exact rfl) ?_
  refine zag rfl rfl (op_nc rfl (ev1 rfl) (fun s v h => by cases h; exact ⟨_, rfl⟩)) ?_
  refine zag rfl rfl (op_fa rfl fo71_0 (ev1 rfl)) ?_
  refine zag rfl rfl (op_fa rfl fo41_1 (ev1 rfl)) ?_
  refine lex_s rfl rfl (op_stm rfl tb3 (ev1 rfl) (ev1 rfl) (fun s v h => by cases h <;> exact ⟨rfl, rfl⟩) rfl (by first | decide | exact Nat.le_of_ble_eq_true rfl | simp)) rfl (by simp only [upd, za, zaa]; exact rfl) ?_
  refine lex_nil ?_
  refine zaf ?_
  refine dwp_draw [([], []), ([], []), ([], []), ([], []), ([0], []), ([], []), ([], []), ([], []), ([], []), ([0], []), ([], []), ([], []), ([], []), ([], []), ([], []), ([], [])] mixed (by kernel_rfl) ?_
  refine zag rfl rfl (zac (.inl rfl) (ev1 rfl)) ?_
  refine zag rfl rfl (op_nc rfl (ev1 rfl) (fun s v h => by cases h; exact ⟨_, rfl⟩)) ?_
  refine zag rfl rfl (op_fa rfl fo71_0 (ev1 rfl)) ?_
  refine zag rfl rfl (op_fa rfl fo41_0 (ev1 rfl)) ?_
  refine zag rfl rfl (op_ldm rfl tb3 (ev1 rfl) rfl rfl) ?_
  refine zag rfl rfl (zac (.inl rfl) (ev1 rfl)) ?_
  refine zag rfl rfl (op_nc rfl (ev1 rfl) (fun s v h => by cases h; exact ⟨_, rfl⟩)) ?_
  refine zag rfl rfl (op_fa rfl fo71_0 (ev1 rfl)) ?_
  refine zag rfl rfl (op_fa rfl fo41_1 (ev1 rfl)) ?_
  refine zag rfl rfl (op_ldm rfl tb3 (ev1 rfl) rfl rfl) ?_
  refine zag rfl rfl (zaj [] [] [] rfl (ev1 rfl) (ec (ev1 rfl) (ec (ev1 rfl) en)) rfl rfl (cnew_d (bAt B 0) (bAt B 1) n hm hn) rfl rfl rfl rfl rfl rfl) ?_
  refine zag rfl rfl (zac (.inl rfl) (ev1 rfl)) ?_
  refine zag rfl rfl (op_ext rfl (ev1 rfl) rfl) ?_
  refine zag rfl rfl (op_ext rfl (ev1 rfl) rfl) ?_
  refine zag rfl rfl (zac (.inr rfl) (ev1 rfl)) ?_
  refine zag rfl rfl (zac (.inr rfl) (ev1 rfl)) ?_
  refine lex_nil ?_
  refine zaf ?_
  refine zad ?_
  refine zab rfl rfl rfl (zac (.inl rfl) (ev1 rfl)) ?_
  refine zab rfl rfl rfl (op_neq rfl (ev1 rfl) (ev1 rfl)) ?_
  refine zae ?_
  refine dwp_if_f rfl (rfl) ?_
  refine dwp_skip ?_
  refine kend [0] (res_none rfl) rfl rfl ?_ ⟨rfl, trivial⟩
  rfl
theorem tk_app (us : List TL) (t : TL) : us.flatMap tc ++ ([Value.agg (tc t).toArray].flatMap fun v => v.cells.toList) = (us ++ [t]).flatMap tc := by
  rw [tc_fl, List.flatMap_append]
  congr 1
  exact (List.append_nil _).symm
set_option maxRecDepth 4000 in
set_option maxHeartbeats 1000000 in
theorem next_z (B : List Int) (hB : B.length ≤ 4000000000000000000) (w h : Int) (us : List TL) (hu : us.length ≤ 5000) (hi : isB B) (t : TL) (p : Nat) (hp : p ≤ B.length) (hz : (p < B.length ∧ bAt B p = 0)) : DFun Try.prog 61 [.loc 0 0, tD t] [.mix 71 [.val (.int .i64 w), .val (.int .i64 h), .arr 1, .slf 1 (B).length ((B).flatMap u8V), .val (.int .i64 (p : Int))], .arr 29 256 (us).length ((us).flatMap tc)] (.tup []) [.mix 71 [.val (.int .i64 w), .val (.int .i64 h), .arr 2, .slf 1 (B).length ((B).flatMap u8V), .val (.int .i64 ((p + 1 : Nat) : Int))], .gone, .arr 29 256 ((us ++ [t])).length (((us ++ [t])).flatMap tc)] := by
  refine dcalls_go (N := 55) 2 (by kernel_rfl) Try.func61 rfl rfl rfl (by simp only [fr0, Nat.zero_add, Nat.reduceAdd]; exact rfl) rfl fun s0 hs0 => ?_
  refine zaf ?_
  refine zah 1 (by simp only [holes, List.cons_append, List.nil_append]; exact rfl) ?_
  refine zad ?_
  refine walk_w rfl rfl rfl (op_boxa 2 rfl (ev1 rfl) rfl) (by simp only [upd, za, zaa]; exact rfl) ?_
  refine zae ?_
  refine zaf ?_
  refine zah 1 (by simp only [holes, List.cons_append, List.nil_append]; exact rfl) ?_
  refine zad ?_
  refine zab rfl rfl rfl (op_ldw rfl tb29 (ev1 rfl) rfl (tc_len _)) ?_
  refine walk_w rfl rfl rfl (op_alloc 3 rfl zr29 rfl) (by simp only [upd, za, zaa]; exact rfl) ?_
  refine walk_s rfl rfl (op_stwa rfl tb29 (ev1 rfl) (ev1 rfl) rfl (tc_len _) (tc_oc _) ((tc_len _).trans (tc_len _).symm)) (by simp only [upd, za, zaa]; exact rfl) ?_
  refine zae ?_
  refine zaf ?_
  refine zaf ?_
  refine dwp_draw [([], []), ([], []), ([], []), ([0], []), ([], []), ([], []), ([], []), ([0], []), ([], []), ([], []), ([], []), ([], []), ([], []), ([], []), ([0], []), ([], []), ([], []), ([], []), ([0], []), ([], []), ([], []), ([], []), ([], [])] mixed (by kernel_rfl) ?_
  refine zag rfl rfl (zac (.inl rfl) (ev1 rfl)) ?_
  refine zag rfl rfl (op_nc rfl (ev1 rfl) (fun s v h => by cases h; exact ⟨_, rfl⟩)) ?_
  refine zag rfl rfl (op_fa rfl fo71_2 (ev1 rfl)) ?_
  refine zag rfl rfl (op_ldm rfl tb3 (ev1 rfl) rfl rfl) ?_
  refine zag rfl rfl (zac (.inl rfl) (ev1 rfl)) ?_
  refine zag rfl rfl (op_nc rfl (ev1 rfl) (fun s v h => by cases h; exact ⟨_, rfl⟩)) ?_
  refine zag rfl rfl (op_fa rfl fo71_1 (ev1 rfl)) ?_
  refine zag rfl rfl (op_ldm rfl tb23 (ev1 rfl) rfl rfl) ?_
  refine zag rfl rfl (op_len rfl sl23 (ev1 rfl)) ?_
  refine zag rfl rfl (op_lss rfl (ev1 rfl) (ev1 rfl)) ?_
  refine zag rfl rfl (zac (.inl rfl) (ev1 rfl)) ?_
  refine lex_gr (gd_t rfl rfl rfl) rfl rfl (zac (.inl rfl) (ev1 rfl)) ?_
  refine lex_gr (gd_t rfl rfl rfl) rfl rfl (op_nc rfl (ev2 rfl) (fun s v h => by cases h; exact ⟨_, rfl⟩)) ?_
  refine lex_gr (gd_t rfl rfl rfl) rfl rfl (op_fa rfl fo71_1 (ev2 rfl)) ?_
  refine lex_gr (gd_t rfl rfl rfl) rfl rfl (op_ldm rfl tb23 (ev2 rfl) rfl rfl) ?_
  refine lex_gr (gd_t rfl rfl rfl) rfl rfl (zac (.inl rfl) (ev1 rfl)) ?_
  refine lex_gr (gd_t rfl rfl rfl) rfl rfl (op_nc rfl (ev2 rfl) (fun s v h => by cases h; exact ⟨_, rfl⟩)) ?_
  refine lex_gr (gd_t rfl rfl rfl) rfl rfl (op_fa rfl fo71_2 (ev2 rfl)) ?_
  refine lex_gr (gd_t rfl rfl rfl) rfl rfl (op_ldm rfl tb3 (ev2 rfl) rfl rfl) ?_
  refine lex_gr (gd_t rfl rfl rfl) rfl rfl (op_ixsg (j := p) ((0 : Int)) rfl sl23 (ev2 rfl) (ev2 rfl) (fun _ => rfl) (by decide) (fun hp => by first | omega | (simp at hp; omega)) (fun hp => by first | omega | (simp at hp; omega))) ?_
  refine lex_gr (gd_t rfl rfl rfl) rfl rfl (op_ldod rfl tb5 (ev2 rfl) rfl) ?_
  refine lex_gr (gd_t rfl rfl rfl) rfl rfl (op_eql rfl (ev2 rfl) (ev1 rfl)) ?_
  refine zag rfl rfl (op_and rfl (ev1 rfl) (ev3 rfl id)) ?_
  refine lex_nil ?_
  refine dwp_if_t rfl (by
  have h2 : B[p]?.getD 0 = 0 := by rw [← List.getD_eq_getElem?_getD]; exact hz.2
  simp [h2]
  omega) ?_
  refine zad ?_
  refine zab rfl rfl rfl (zac (.inl rfl) (ev1 rfl)) ?_
  refine zab rfl rfl rfl (op_nc rfl (ev1 rfl) (fun s v h => by cases h; exact ⟨_, rfl⟩)) ?_
  refine zab rfl rfl rfl (op_fa rfl fo71_2 (ev1 rfl)) ?_
  refine zab rfl rfl rfl (op_ldm rfl tb3 (ev1 rfl) rfl rfl) ?_
  refine zab rfl rfl rfl (op_add' rfl (ev1 rfl) (ev1 rfl) (fun _ => IntWalk.i64_in _ (by omega))) ?_
  refine zab rfl rfl rfl (op_nc rfl (ev1 rfl) (fun s v h => by cases h; exact ⟨_, rfl⟩)) ?_
  refine zab rfl rfl rfl (op_fa rfl fo71_2 (ev1 rfl)) ?_
  refine walk_s rfl rfl (op_stm rfl tb3 (ev1 rfl) (ev1 rfl) (fun s v h => by cases h <;> exact ⟨rfl, rfl⟩) rfl (by first | decide | exact Nat.le_of_ble_eq_true rfl | simp)) (by simp only [upd, za, zaa]; exact rfl) ?_
  refine zae ?_
  refine zah 2 (by simp only [holes, List.cons_append, List.nil_append]; exact rfl) ?_
  refine dwp_draw [([], []), ([], []), ([], []), ([], []), ([], []), ([0], []), ([3], []), ([4], [4]), ([1, 5, 4], [1, 5]), ([], []), ([], []), ([], []), ([0], [0])] mixed (by kernel_rfl) ?_
  refine zag rfl rfl (zac (.inl rfl) (ev1 rfl)) ?_
  refine zag rfl rfl (zac (.inl rfl) (ev1 rfl)) ?_
  refine zag rfl rfl (op_nc rfl (ev1 rfl) (fun s v h => by cases h; exact ⟨_, rfl⟩)) ?_
  refine zag rfl rfl (op_fa rfl fo71_0 (ev1 rfl)) ?_
  refine zag rfl rfl (op_fa rfl fo41_2 (ev1 rfl)) ?_
  refine zag rfl rfl (op_ldm rfl tb22 (ev1 rfl) rfl rfl) ?_
  refine zag rfl rfl (op_ldw rfl tb29 (ev1 rfl) rfl (tc_len _)) ?_
  refine lex_w rfl rfl (op_bsa (ps := [(0, .tmp 49)]) 4 rfl sl22 zr29 rfl (vc (ev1 rfl) vn) (tc_sz _) (by decide) (by decide) rfl) rfl (by simp only [upd, za, zaa]; exact rfl) ?_
  refine lex_w rfl rfl (op_app (j := 5) rfl sl22 zr29 rfl (ev1 rfl) (ev1 rfl) (src_arr rfl) rfl rfl (fun _ => tc_oc1 _) (fun _ => ⟨by omega, by omega⟩)) rfl (by simp only [upd, za, zaa]; exact rfl) ?_
  refine zag rfl rfl (op_nc rfl (ev1 rfl) (fun s v h => by cases h; exact ⟨_, rfl⟩)) ?_
  refine zag rfl rfl (op_fa rfl fo71_0 (ev1 rfl)) ?_
  refine zag rfl rfl (op_fa rfl fo41_2 (ev1 rfl)) ?_
  refine lex_s rfl rfl (op_stm rfl tb22 (ev1 rfl) (ev1 rfl) (fun s v h => by cases h <;> exact ⟨rfl, rfl⟩) rfl (by first | decide | exact Nat.le_of_ble_eq_true rfl | simp)) rfl (by simp only [upd, za, zaa]; exact rfl) ?_
  refine lex_nil ?_
  refine kend [0, 1, 5] (res_none rfl) rfl rfl ?_ ⟨rfl, rfl, arr_eq (by rw [List.length_append]; rfl) (tk_app us t), trivial⟩
  rfl
set_option maxRecDepth 4000 in
set_option maxHeartbeats 1000000 in
theorem next_t (B : List Int) (hB : B.length ≤ 4000000000000000000) (w h : Int) (us : List TL) (hu : us.length ≤ 5000) (hi : isB B) (t : TL) (p : Nat) (hp : p ≤ B.length) (hz : ¬ (p < B.length ∧ bAt B p = 0)) (l : List C4) (q : Nat) (h0 : rdN B p = some (l, q)) (hne : padT l ≠ t) : DFun Try.prog 61 [.loc 0 0, tD t] [.mix 71 [.val (.int .i64 w), .val (.int .i64 h), .arr 1, .slf 1 (B).length ((B).flatMap u8V), .val (.int .i64 (p : Int))], .arr 29 256 (us).length ((us).flatMap tc)] (.tup []) [.mix 71 [.val (.int .i64 w), .val (.int .i64 h), .arr 2, .slf 1 (B).length ((B).flatMap u8V), .val (.int .i64 ((q : Nat) : Int))], .gone, .arr 29 256 ((us ++ [padT l])).length (((us ++ [padT l])).flatMap tc)] := by
  refine dcalls_go (N := 55) 2 (by kernel_rfl) Try.func61 rfl rfl rfl (by simp only [fr0, Nat.zero_add, Nat.reduceAdd]; exact rfl) rfl fun s0 hs0 => ?_
  refine zaf ?_
  refine zah 1 (by simp only [holes, List.cons_append, List.nil_append]; exact rfl) ?_
  refine zad ?_
  refine walk_w rfl rfl rfl (op_boxa 2 rfl (ev1 rfl) rfl) (by simp only [upd, za, zaa]; exact rfl) ?_
  refine zae ?_
  refine zaf ?_
  refine zah 1 (by simp only [holes, List.cons_append, List.nil_append]; exact rfl) ?_
  refine zad ?_
  refine zab rfl rfl rfl (op_ldw rfl tb29 (ev1 rfl) rfl (tc_len _)) ?_
  refine walk_w rfl rfl rfl (op_alloc 3 rfl zr29 rfl) (by simp only [upd, za, zaa]; exact rfl) ?_
  refine walk_s rfl rfl (op_stwa rfl tb29 (ev1 rfl) (ev1 rfl) rfl (tc_len _) (tc_oc _) ((tc_len _).trans (tc_len _).symm)) (by simp only [upd, za, zaa]; exact rfl) ?_
  refine zae ?_
  refine zaf ?_
  refine zaf ?_
  refine dwp_draw [([], []), ([], []), ([], []), ([0], []), ([], []), ([], []), ([], []), ([0], []), ([], []), ([], []), ([], []), ([], []), ([], []), ([], []), ([0], []), ([], []), ([], []), ([], []), ([0], []), ([], []), ([], []), ([], []), ([], [])] mixed (by kernel_rfl) ?_
  refine zag rfl rfl (zac (.inl rfl) (ev1 rfl)) ?_
  refine zag rfl rfl (op_nc rfl (ev1 rfl) (fun s v h => by cases h; exact ⟨_, rfl⟩)) ?_
  refine zag rfl rfl (op_fa rfl fo71_2 (ev1 rfl)) ?_
  refine zag rfl rfl (op_ldm rfl tb3 (ev1 rfl) rfl rfl) ?_
  refine zag rfl rfl (zac (.inl rfl) (ev1 rfl)) ?_
  refine zag rfl rfl (op_nc rfl (ev1 rfl) (fun s v h => by cases h; exact ⟨_, rfl⟩)) ?_
  refine zag rfl rfl (op_fa rfl fo71_1 (ev1 rfl)) ?_
  refine zag rfl rfl (op_ldm rfl tb23 (ev1 rfl) rfl rfl) ?_
  refine zag rfl rfl (op_len rfl sl23 (ev1 rfl)) ?_
  refine zag rfl rfl (op_lss rfl (ev1 rfl) (ev1 rfl)) ?_
  refine zag rfl rfl (zac (.inl rfl) (ev1 rfl)) ?_
  refine lex_gr (gd_t rfl rfl rfl) rfl rfl (zac (.inl rfl) (ev1 rfl)) ?_
  refine lex_gr (gd_t rfl rfl rfl) rfl rfl (op_nc rfl (ev2 rfl) (fun s v h => by cases h; exact ⟨_, rfl⟩)) ?_
  refine lex_gr (gd_t rfl rfl rfl) rfl rfl (op_fa rfl fo71_1 (ev2 rfl)) ?_
  refine lex_gr (gd_t rfl rfl rfl) rfl rfl (op_ldm rfl tb23 (ev2 rfl) rfl rfl) ?_
  refine lex_gr (gd_t rfl rfl rfl) rfl rfl (zac (.inl rfl) (ev1 rfl)) ?_
  refine lex_gr (gd_t rfl rfl rfl) rfl rfl (op_nc rfl (ev2 rfl) (fun s v h => by cases h; exact ⟨_, rfl⟩)) ?_
  refine lex_gr (gd_t rfl rfl rfl) rfl rfl (op_fa rfl fo71_2 (ev2 rfl)) ?_
  refine lex_gr (gd_t rfl rfl rfl) rfl rfl (op_ldm rfl tb3 (ev2 rfl) rfl rfl) ?_
  refine lex_gr (gd_t rfl rfl rfl) rfl rfl (op_ixsg (j := p) ((0 : Int)) rfl sl23 (ev2 rfl) (ev2 rfl) (fun _ => rfl) (by decide) (fun hp => by first | omega | (simp at hp; omega)) (fun hp => by first | omega | (simp at hp; omega))) ?_
  refine lex_gr (gd_t rfl rfl rfl) rfl rfl (op_ldod rfl tb5 (ev2 rfl) rfl) ?_
  refine lex_gr (gd_t rfl rfl rfl) rfl rfl (op_eql rfl (ev2 rfl) (ev1 rfl)) ?_
  refine zag rfl rfl (op_and rfl (ev1 rfl) (ev3 rfl id)) ?_
  refine lex_nil ?_
  refine dwp_if_f rfl (by
  rw [Bool.eq_false_iff]
  intro h
  simp at h
  exact hz ⟨by omega, by unfold bAt; rw [List.getD_eq_getElem?_getD]; exact h.2⟩) ?_
  refine zaf ?_
  refine zad ?_
  refine zab rfl rfl rfl (zac (.inl rfl) (ev1 rfl)) ?_
  refine walk_w rfl rfl rfl (zaj [0, 1] [] [] rfl (ev1 rfl) (ec (ev1 rfl) en) rfl rfl (rtl_okx B hB w h us hu hi p hp l q h0) rfl rfl rfl rfl rfl rfl) (by simp only [upd, za, zaa]; exact rfl) ?_
  refine walk_s rfl rfl (op_stwa rfl tb29 (ev1 rfl) (ev1 rfl) rfl (tc_len _) (tc_oc _) ((tc_len _).trans (tc_len _).symm)) (by simp only [upd, za, zaa]; exact rfl) ?_
  refine zae ?_
  refine zaf ?_
  refine zad ?_
  refine zab rfl rfl rfl (op_ldw rfl tb29 (ev1 rfl) rfl (tc_len _)) ?_
  refine zab rfl rfl rfl (op_ldw rfl tb29 (ev1 rfl) rfl (tc_len _)) ?_
  refine zab rfl rfl rfl (op_eqr eq29 rfl gd29 tb29 (ev1 rfl) (ev1 rfl)) ?_
  refine zae ?_
  refine dwp_if_f rfl (by simpa using hne) ?_
  refine dwp_skip ?_
  refine zah 2 (by simp only [holes, List.cons_append, List.nil_append]; exact rfl) ?_
  refine dwp_draw [([], []), ([], []), ([], []), ([], []), ([], []), ([0], []), ([3], []), ([4], [4]), ([1, 5, 4], [1, 5]), ([], []), ([], []), ([], []), ([0], [0])] mixed (by kernel_rfl) ?_
  refine zag rfl rfl (zac (.inl rfl) (ev1 rfl)) ?_
  refine zag rfl rfl (zac (.inl rfl) (ev1 rfl)) ?_
  refine zag rfl rfl (op_nc rfl (ev1 rfl) (fun s v h => by cases h; exact ⟨_, rfl⟩)) ?_
  refine zag rfl rfl (op_fa rfl fo71_0 (ev1 rfl)) ?_
  refine zag rfl rfl (op_fa rfl fo41_2 (ev1 rfl)) ?_
  refine zag rfl rfl (op_ldm rfl tb22 (ev1 rfl) rfl rfl) ?_
  refine zag rfl rfl (op_ldw rfl tb29 (ev1 rfl) rfl (tc_len _)) ?_
  refine lex_w rfl rfl (op_bsa (ps := [(0, .tmp 49)]) 4 rfl sl22 zr29 rfl (vc (ev1 rfl) vn) (tc_sz _) (by decide) (by decide) rfl) rfl (by simp only [upd, za, zaa]; exact rfl) ?_
  refine lex_w rfl rfl (op_app (j := 5) rfl sl22 zr29 rfl (ev1 rfl) (ev1 rfl) (src_arr rfl) rfl rfl (fun _ => tc_oc1 _) (fun _ => ⟨by omega, by omega⟩)) rfl (by simp only [upd, za, zaa]; exact rfl) ?_
  refine zag rfl rfl (op_nc rfl (ev1 rfl) (fun s v h => by cases h; exact ⟨_, rfl⟩)) ?_
  refine zag rfl rfl (op_fa rfl fo71_0 (ev1 rfl)) ?_
  refine zag rfl rfl (op_fa rfl fo41_2 (ev1 rfl)) ?_
  refine lex_s rfl rfl (op_stm rfl tb22 (ev1 rfl) (ev1 rfl) (fun s v h => by cases h <;> exact ⟨rfl, rfl⟩) rfl (by first | decide | exact Nat.le_of_ble_eq_true rfl | simp)) rfl (by simp only [upd, za, zaa]; exact rfl) ?_
  refine lex_nil ?_
  refine kend [0, 1, 5] (res_none rfl) rfl rfl ?_ ⟨rfl, rfl, arr_eq (by rw [List.length_append]; rfl) (tk_app us (padT l)), trivial⟩
  rfl
set_option maxRecDepth 4000 in
set_option maxHeartbeats 1000000 in
theorem next_n1 (B : List Int) (hB : B.length ≤ 4000000000000000000) (w h : Int) (us : List TL) (hu : us.length ≤ 5000) (hi : isB B) (t : TL) (p : Nat) (hp : p ≤ B.length) (hz : ¬ (p < B.length ∧ bAt B p = 0)) (h0 : rdN B p = none) : DPanL Try.prog 61 [.loc 0 0, tD t] [.mix 71 [.val (.int .i64 w), .val (.int .i64 h), .arr 1, .slf 1 (B).length ((B).flatMap u8V), .val (.int .i64 (p : Int))], .arr 29 256 (us).length ((us).flatMap tc)] (.ifc 86 (.val (.agg #[]))) := by
  refine dcalls_go (N := 55) 2 (by kernel_rfl) Try.func61 rfl rfl rfl (by simp only [fr0, Nat.zero_add, Nat.reduceAdd]; exact rfl) rfl fun s0 hs0 => ?_
  refine zaf ?_
  refine zah 1 (by simp only [holes, List.cons_append, List.nil_append]; exact rfl) ?_
  refine zad ?_
  refine walk_w rfl rfl rfl (op_boxa 2 rfl (ev1 rfl) rfl) (by simp only [upd, za, zaa]; exact rfl) ?_
  refine zae ?_
  refine zaf ?_
  refine zah 1 (by simp only [holes, List.cons_append, List.nil_append]; exact rfl) ?_
  refine zad ?_
  refine zab rfl rfl rfl (op_ldw rfl tb29 (ev1 rfl) rfl (tc_len _)) ?_
  refine walk_w rfl rfl rfl (op_alloc 3 rfl zr29 rfl) (by simp only [upd, za, zaa]; exact rfl) ?_
  refine walk_s rfl rfl (op_stwa rfl tb29 (ev1 rfl) (ev1 rfl) rfl (tc_len _) (tc_oc _) ((tc_len _).trans (tc_len _).symm)) (by simp only [upd, za, zaa]; exact rfl) ?_
  refine zae ?_
  refine zaf ?_
  refine zaf ?_
  refine dwp_draw [([], []), ([], []), ([], []), ([0], []), ([], []), ([], []), ([], []), ([0], []), ([], []), ([], []), ([], []), ([], []), ([], []), ([], []), ([0], []), ([], []), ([], []), ([], []), ([0], []), ([], []), ([], []), ([], []), ([], [])] mixed (by kernel_rfl) ?_
  refine zag rfl rfl (zac (.inl rfl) (ev1 rfl)) ?_
  refine zag rfl rfl (op_nc rfl (ev1 rfl) (fun s v h => by cases h; exact ⟨_, rfl⟩)) ?_
  refine zag rfl rfl (op_fa rfl fo71_2 (ev1 rfl)) ?_
  refine zag rfl rfl (op_ldm rfl tb3 (ev1 rfl) rfl rfl) ?_
  refine zag rfl rfl (zac (.inl rfl) (ev1 rfl)) ?_
  refine zag rfl rfl (op_nc rfl (ev1 rfl) (fun s v h => by cases h; exact ⟨_, rfl⟩)) ?_
  refine zag rfl rfl (op_fa rfl fo71_1 (ev1 rfl)) ?_
  refine zag rfl rfl (op_ldm rfl tb23 (ev1 rfl) rfl rfl) ?_
  refine zag rfl rfl (op_len rfl sl23 (ev1 rfl)) ?_
  refine zag rfl rfl (op_lss rfl (ev1 rfl) (ev1 rfl)) ?_
  refine zag rfl rfl (zac (.inl rfl) (ev1 rfl)) ?_
  refine lex_gr (gd_t rfl rfl rfl) rfl rfl (zac (.inl rfl) (ev1 rfl)) ?_
  refine lex_gr (gd_t rfl rfl rfl) rfl rfl (op_nc rfl (ev2 rfl) (fun s v h => by cases h; exact ⟨_, rfl⟩)) ?_
  refine lex_gr (gd_t rfl rfl rfl) rfl rfl (op_fa rfl fo71_1 (ev2 rfl)) ?_
  refine lex_gr (gd_t rfl rfl rfl) rfl rfl (op_ldm rfl tb23 (ev2 rfl) rfl rfl) ?_
  refine lex_gr (gd_t rfl rfl rfl) rfl rfl (zac (.inl rfl) (ev1 rfl)) ?_
  refine lex_gr (gd_t rfl rfl rfl) rfl rfl (op_nc rfl (ev2 rfl) (fun s v h => by cases h; exact ⟨_, rfl⟩)) ?_
  refine lex_gr (gd_t rfl rfl rfl) rfl rfl (op_fa rfl fo71_2 (ev2 rfl)) ?_
  refine lex_gr (gd_t rfl rfl rfl) rfl rfl (op_ldm rfl tb3 (ev2 rfl) rfl rfl) ?_
  refine lex_gr (gd_t rfl rfl rfl) rfl rfl (op_ixsg (j := p) ((0 : Int)) rfl sl23 (ev2 rfl) (ev2 rfl) (fun _ => rfl) (by decide) (fun hp => by first | omega | (simp at hp; omega)) (fun hp => by first | omega | (simp at hp; omega))) ?_
  refine lex_gr (gd_t rfl rfl rfl) rfl rfl (op_ldod rfl tb5 (ev2 rfl) rfl) ?_
  refine lex_gr (gd_t rfl rfl rfl) rfl rfl (op_eql rfl (ev2 rfl) (ev1 rfl)) ?_
  refine zag rfl rfl (op_and rfl (ev1 rfl) (ev3 rfl id)) ?_
  refine lex_nil ?_
  refine dwp_if_f rfl (by
  rw [Bool.eq_false_iff]
  intro h
  simp at h
  exact hz ⟨by omega, by unfold bAt; rw [List.getD_eq_getElem?_getD]; exact h.2⟩) ?_
  refine zaf ?_
  refine zad ?_
  refine zab rfl rfl rfl (zac (.inl rfl) (ev1 rfl)) ?_
  refine walk_p rfl (dop_callP [0, 1] [] [] rfl (ev1 rfl) (ec (ev1 rfl) en) rfl rfl ((rtl_nox B hB w h us hu hi p hp h0).dead) rfl rfl rfl rfl rfl rfl) rfl ?_
  refine kpanL (Mo := [_, _]) [0, 1] rfl rfl ?_ ⟨rfl, rfl, trivial⟩ rfl
  rfl
set_option maxRecDepth 4000 in
set_option maxHeartbeats 1000000 in
theorem next_n2 (B : List Int) (hB : B.length ≤ 4000000000000000000) (w h : Int) (us : List TL) (hu : us.length ≤ 5000) (hi : isB B) (t : TL) (p : Nat) (hp : p ≤ B.length) (hz : ¬ (p < B.length ∧ bAt B p = 0)) (l : List C4) (q : Nat) (h0 : rdN B p = some (l, q)) (hne : padT l = t) : DPanL Try.prog 61 [.loc 0 0, tD t] [.mix 71 [.val (.int .i64 w), .val (.int .i64 h), .arr 1, .slf 1 (B).length ((B).flatMap u8V), .val (.int .i64 (p : Int))], .arr 29 256 (us).length ((us).flatMap tc)] (.ifc 86 (.val (.agg #[]))) := by
  refine dcalls_go (N := 55) 2 (by kernel_rfl) Try.func61 rfl rfl rfl (by simp only [fr0, Nat.zero_add, Nat.reduceAdd]; exact rfl) rfl fun s0 hs0 => ?_
  refine zaf ?_
  refine zah 1 (by simp only [holes, List.cons_append, List.nil_append]; exact rfl) ?_
  refine zad ?_
  refine walk_w rfl rfl rfl (op_boxa 2 rfl (ev1 rfl) rfl) (by simp only [upd, za, zaa]; exact rfl) ?_
  refine zae ?_
  refine zaf ?_
  refine zah 1 (by simp only [holes, List.cons_append, List.nil_append]; exact rfl) ?_
  refine zad ?_
  refine zab rfl rfl rfl (op_ldw rfl tb29 (ev1 rfl) rfl (tc_len _)) ?_
  refine walk_w rfl rfl rfl (op_alloc 3 rfl zr29 rfl) (by simp only [upd, za, zaa]; exact rfl) ?_
  refine walk_s rfl rfl (op_stwa rfl tb29 (ev1 rfl) (ev1 rfl) rfl (tc_len _) (tc_oc _) ((tc_len _).trans (tc_len _).symm)) (by simp only [upd, za, zaa]; exact rfl) ?_
  refine zae ?_
  refine zaf ?_
  refine zaf ?_
  refine dwp_draw [([], []), ([], []), ([], []), ([0], []), ([], []), ([], []), ([], []), ([0], []), ([], []), ([], []), ([], []), ([], []), ([], []), ([], []), ([0], []), ([], []), ([], []), ([], []), ([0], []), ([], []), ([], []), ([], []), ([], [])] mixed (by kernel_rfl) ?_
  refine zag rfl rfl (zac (.inl rfl) (ev1 rfl)) ?_
  refine zag rfl rfl (op_nc rfl (ev1 rfl) (fun s v h => by cases h; exact ⟨_, rfl⟩)) ?_
  refine zag rfl rfl (op_fa rfl fo71_2 (ev1 rfl)) ?_
  refine zag rfl rfl (op_ldm rfl tb3 (ev1 rfl) rfl rfl) ?_
  refine zag rfl rfl (zac (.inl rfl) (ev1 rfl)) ?_
  refine zag rfl rfl (op_nc rfl (ev1 rfl) (fun s v h => by cases h; exact ⟨_, rfl⟩)) ?_
  refine zag rfl rfl (op_fa rfl fo71_1 (ev1 rfl)) ?_
  refine zag rfl rfl (op_ldm rfl tb23 (ev1 rfl) rfl rfl) ?_
  refine zag rfl rfl (op_len rfl sl23 (ev1 rfl)) ?_
  refine zag rfl rfl (op_lss rfl (ev1 rfl) (ev1 rfl)) ?_
  refine zag rfl rfl (zac (.inl rfl) (ev1 rfl)) ?_
  refine lex_gr (gd_t rfl rfl rfl) rfl rfl (zac (.inl rfl) (ev1 rfl)) ?_
  refine lex_gr (gd_t rfl rfl rfl) rfl rfl (op_nc rfl (ev2 rfl) (fun s v h => by cases h; exact ⟨_, rfl⟩)) ?_
  refine lex_gr (gd_t rfl rfl rfl) rfl rfl (op_fa rfl fo71_1 (ev2 rfl)) ?_
  refine lex_gr (gd_t rfl rfl rfl) rfl rfl (op_ldm rfl tb23 (ev2 rfl) rfl rfl) ?_
  refine lex_gr (gd_t rfl rfl rfl) rfl rfl (zac (.inl rfl) (ev1 rfl)) ?_
  refine lex_gr (gd_t rfl rfl rfl) rfl rfl (op_nc rfl (ev2 rfl) (fun s v h => by cases h; exact ⟨_, rfl⟩)) ?_
  refine lex_gr (gd_t rfl rfl rfl) rfl rfl (op_fa rfl fo71_2 (ev2 rfl)) ?_
  refine lex_gr (gd_t rfl rfl rfl) rfl rfl (op_ldm rfl tb3 (ev2 rfl) rfl rfl) ?_
  refine lex_gr (gd_t rfl rfl rfl) rfl rfl (op_ixsg (j := p) ((0 : Int)) rfl sl23 (ev2 rfl) (ev2 rfl) (fun _ => rfl) (by decide) (fun hp => by first | omega | (simp at hp; omega)) (fun hp => by first | omega | (simp at hp; omega))) ?_
  refine lex_gr (gd_t rfl rfl rfl) rfl rfl (op_ldod rfl tb5 (ev2 rfl) rfl) ?_
  refine lex_gr (gd_t rfl rfl rfl) rfl rfl (op_eql rfl (ev2 rfl) (ev1 rfl)) ?_
  refine zag rfl rfl (op_and rfl (ev1 rfl) (ev3 rfl id)) ?_
  refine lex_nil ?_
  refine dwp_if_f rfl (by
  rw [Bool.eq_false_iff]
  intro h
  simp at h
  exact hz ⟨by omega, by unfold bAt; rw [List.getD_eq_getElem?_getD]; exact h.2⟩) ?_
  refine zaf ?_
  refine zad ?_
  refine zab rfl rfl rfl (zac (.inl rfl) (ev1 rfl)) ?_
  refine walk_w rfl rfl rfl (zaj [0, 1] [] [] rfl (ev1 rfl) (ec (ev1 rfl) en) rfl rfl (rtl_okx B hB w h us hu hi p hp l q h0) rfl rfl rfl rfl rfl rfl) (by simp only [upd, za, zaa]; exact rfl) ?_
  refine walk_s rfl rfl (op_stwa rfl tb29 (ev1 rfl) (ev1 rfl) rfl (tc_len _) (tc_oc _) ((tc_len _).trans (tc_len _).symm)) (by simp only [upd, za, zaa]; exact rfl) ?_
  refine zae ?_
  refine zaf ?_
  refine zad ?_
  refine zab rfl rfl rfl (op_ldw rfl tb29 (ev1 rfl) rfl (tc_len _)) ?_
  refine zab rfl rfl rfl (op_ldw rfl tb29 (ev1 rfl) rfl (tc_len _)) ?_
  refine zab rfl rfl rfl (op_eqr eq29 rfl gd29 tb29 (ev1 rfl) (ev1 rfl)) ?_
  refine zae ?_
  refine dwp_if_t rfl (by simpa using hne) ?_
  refine zad ?_
  refine zab rfl rfl rfl (op_build0 rfl fl86 zr86) ?_
  refine zab rfl rfl rfl (op_mi rfl ni86 (ev1 rfl)) ?_
  refine walk_p rfl (op_pan rfl (ev1 rfl)) rfl ?_
  refine kpanL (Mo := [_, _]) [0, 1] rfl rfl ?_ ⟨rfl, rfl, trivial⟩ rfl
  rfl
end Go.Proofs.Ytcbfnbfhlofkiaa
namespace Go.Proofs.Ytcbfnbfhlofkiaa
set_option maxRecDepth 4000
set_option linter.unusedVariables false
set_option linter.unusedSimpArgs false
open Go.RowKit
attribute [local irreducible] padT rdP rdN mayG
theorem tb80 : tyB Try.prog 80 = some (false, 1) := by kernel_rfl
def zrB (B : List Int) (p : Nat) : Bool := decide (p < B.length) && decide (bAt B p = 0)
theorem zrB_iff {B : List Int} {p : Nat} : zrB B p = true ↔ p < B.length ∧ bAt B p = 0 := by unfold zrB; simp
def rdNs (kn : List TL → TL) (B : List Int) : Nat → List TL → Nat → Option (List TL × Nat)
  | 0, acc, p => some (acc, p)
  | n + 1, acc, p => if zrB B p = true then rdNs kn B n (acc ++ [kn acc]) (p + 1) else match rdN B p with
    | some x => if padT x.1 = kn acc then none else rdNs kn B n (acc ++ [padT x.1]) x.2
    | none => none
theorem rdN_le {B : List Int} {p q : Nat} {l : List C4} (h : rdN B p = some (l, q)) : q ≤ B.length ∧ p ≤ q ∧ l.length = 64 := by
  unfold rdN at h
  exact rdP_le h
theorem rdNs_z {kn : List TL → TL} {B : List Int} {n : Nat} {acc : List TL} {p : Nat} {r : Option (List TL × Nat)} (hn : 0 < n) (hz : zrB B p = true) (h : rdNs kn B n acc p = r) : rdNs kn B (n - 1) (acc ++ [kn acc]) (p + 1) = r := by
  cases n with
  | zero => omega
  | succ n => rw [rdNs, if_pos hz] at h; exact h
theorem rdNs_t {kn : List TL → TL} {B : List Int} {n : Nat} {acc : List TL} {p q : Nat} {l : List C4} {r : Option (List TL × Nat)} (hn : 0 < n) (hz : ¬ zrB B p = true) (h0 : rdN B p = some (l, q)) (hne : padT l ≠ kn acc) (h : rdNs kn B n acc p = r) : rdNs kn B (n - 1) (acc ++ [padT l]) q = r := by
  cases n with
  | zero => omega
  | succ n => rw [rdNs, if_neg hz, h0] at h; simp only at h; rw [if_neg hne] at h; exact h
theorem rdNs_some {kn : List TL → TL} {B : List Int} {n : Nat} {acc : List TL} {p : Nat} {x : List TL × Nat} (hn : 0 < n) (hz : ¬ zrB B p = true) (h : rdNs kn B n acc p = some x) : ∃ l q, rdN B p = some (l, q) ∧ padT l ≠ kn acc := by
  cases n with
  | zero => omega
  | succ n =>
    rw [rdNs, if_neg hz] at h
    cases hx : rdN B p with
    | none => rw [hx] at h; cases h
    | some y =>
      obtain ⟨l, q⟩ := y
      rw [hx] at h
      simp only at h
      by_cases hk : padT l = kn acc
      · rw [if_pos hk] at h; cases h
      · exact ⟨l, q, rfl, hk⟩
theorem aheadK_at {us : List TL} (h : 0 < us.length) : aheadK us = us[us.length - 1] := by
  unfold aheadK
  rw [List.getLastD_eq_getLast?, List.getLast?_eq_getElem?, List.getElem?_eq_getElem (by omega)]
  rfl
theorem aheadK_tk {us : List TL} {k : Nat} (h0 : 0 < k) (h : k ≤ us.length) : aheadK (us.take k) = us[k - 1] := by
  rw [aheadK_at (by rw [List.length_take]; omega)]
  simp only [List.length_take, List.getElem_take]
  congr 1
  omega
theorem thereK_at {old acc : List TL} (h : acc.length < old.length) : thereK old acc = old[acc.length] := by
  unfold thereK
  rw [List.getD_eq_getElem?_getD, List.getElem?_eq_getElem h]
  rfl
theorem next_n (B : List Int) (hB : B.length ≤ 4000000000000000000) (w h : Int) (us : List TL) (hu : us.length ≤ 5000) (hi : isB B) (t : TL) (p : Nat) (hp : p ≤ B.length) (hz : ¬ (p < B.length ∧ bAt B p = 0)) (hno : ∀ l q, rdN B p = some (l, q) → padT l = t) : DPanL Try.prog 61 [.loc 0 0, tD t] [.mix 71 [.val (.int .i64 w), .val (.int .i64 h), .arr 1, .slf 1 (B).length ((B).flatMap u8V), .val (.int .i64 (p : Int))], .arr 29 256 (us).length ((us).flatMap tc)] (.ifc 86 (.val (.agg #[]))) := by
  cases h0 : rdN B p with
  | none => exact next_n1 B hB w h us hu hi t p hp hz h0
  | some x => exact next_n2 B hB w h us hu hi t p hp hz x.1 x.2 h0 (hno _ _ h0)
set_option maxRecDepth 4000 in
set_option maxHeartbeats 1000000 in
theorem ahead_r (B : List Int) (hB : B.length ≤ 4000000000000000000) (w h : Int) (us : List TL) (hu : us.length ≤ 5000) (p : Nat) : DFun Try.prog 57 [.val (.int .i64 (us.length : Int)), .loc 2 0] [.mix 71 [.val (.int .i64 w), .val (.int .i64 h), .arr 1, .slf 1 (B).length ((B).flatMap u8V), .val (.int .i64 (p : Int))], .arr 29 256 (us).length ((us).flatMap tc), .mix 80 [.loc 0 0]] (.val (.agg (tc (aheadK us)).toArray)) [.mix 71 [.val (.int .i64 w), .val (.int .i64 h), .arr 1, .slf 1 (B).length ((B).flatMap u8V), .val (.int .i64 (p : Int))], .arr 29 256 (us).length ((us).flatMap tc), .mix 80 [.loc 0 0]] := by
  refine dcalls_go (N := 15) 3 (by kernel_rfl) Try.func57 rfl rfl rfl (by simp only [fr0, Nat.zero_add, Nat.reduceAdd]; exact rfl) rfl fun s0 hs0 => ?_
  refine zaf ?_
  refine zah 1 (by simp only [holes, List.cons_append, List.nil_append]; exact rfl) ?_
  refine zad ?_
  refine walk_w rfl rfl rfl (op_alloc 3 rfl zr29 rfl) (by simp only [upd, za, zaa]; exact rfl) ?_
  refine zae ?_
  refine zaf ?_
  refine zaf ?_
  refine zad ?_
  refine zab rfl rfl rfl (zac (.inl rfl) (ev1 rfl)) ?_
  refine zab rfl rfl rfl (op_eql rfl (ev1 rfl) (ev1 rfl)) ?_
  refine zae ?_
  refine dwp_cond rfl (fun c1 => ?_) (fun c1 => ?_)
  · try simp only [decide_eq_true_eq, decide_eq_false_iff_not, beq_iff_eq, bne_iff_ne, beq_eq_false_iff_ne, bne_eq_false_iff_eq, Bool.not_eq_true', Bool.not_eq_false', Bool.and_eq_true, Bool.or_eq_true, Bool.or_eq_false_iff, ne_eq, Decidable.not_not, Int.not_lt, Int.not_le] at c1
    obtain rfl : us = [] := List.eq_nil_of_length_eq_zero (by omega)
    refine zaf ?_
    refine zad ?_
    refine zab rfl rfl rfl (op_build0a rfl ar29 zr29) ?_
    refine walk_s rfl rfl (op_stwa rfl tb29 (ev1 rfl) (ev1 rfl) rfl (tc_len _) (tc_oc _) ((tc_len _).trans (tc_len _).symm)) (by simp only [upd, za, zaa]; exact rfl) ?_
    refine zae ?_
    refine dwp_ret ?_
    refine kend [0, 1, 2] (rs1 rfl (rv_w tb29 rfl rfl (tc_len _))) rfl rfl ?_ ⟨rfl, rfl, rfl, trivial⟩
    rfl
  · try simp only [decide_eq_true_eq, decide_eq_false_iff_not, beq_iff_eq, bne_iff_ne, beq_eq_false_iff_ne, bne_eq_false_iff_eq, Bool.not_eq_true', Bool.not_eq_false', Bool.and_eq_true, Bool.or_eq_true, Bool.or_eq_false_iff, ne_eq, Decidable.not_not, Int.not_lt, Int.not_le] at c1
    refine dwp_skip ?_
    refine zaf ?_
    refine zad ?_
    refine zab rfl rfl rfl (op_ldm rfl tb80 (ev1 rfl) rfl rfl) ?_
    refine zab rfl rfl rfl (op_nc rfl (ev1 rfl) (fun s v h => by cases h; exact ⟨_, rfl⟩)) ?_
    refine zab rfl rfl rfl (op_fa rfl fo41_2 (ev1 rfl)) ?_
    refine zab rfl rfl rfl (op_ldm rfl tb22 (ev1 rfl) rfl rfl) ?_
    refine zab rfl rfl rfl (zac (.inl rfl) (ev1 rfl)) ?_
    refine zab rfl rfl rfl (op_sub' rfl (ev1 rfl) (ev1 rfl) (fun _ => IntWalk.i64_in _ (by omega))) ?_
    refine zab rfl rfl rfl (op_ixar (j := us.length - 1) rfl sl22 (ev1 rfl) (ev1 rfl) rfl (fun _ => by first | rfl | omega) (fun _ => by omega)) ?_
    refine zab rfl rfl rfl (op_ldar rfl tb29 (ev1 rfl) rfl (tc_len) (by omega)) ?_
    refine walk_s rfl rfl (op_stwa rfl tb29 (ev1 rfl) (ev1 rfl) rfl (tc_len _) (tc_oc _) ((tc_len _).trans (tc_len _).symm)) (by simp only [upd, za, zaa]; exact rfl) ?_
    refine zae ?_
    refine dwp_ret ?_
    refine kend [0, 1, 2] (rs1 rfl (rv_w tb29 rfl rfl (tc_len _))) rfl rfl ?_ ⟨rfl, rfl, rfl, trivial⟩
    rw [aheadK_at (by omega)]
set_option maxRecDepth 4000 in
set_option maxHeartbeats 1000000 in
theorem there_d (a b : Int) (old : List TL) (k : Nat) (hk : k < old.length) : DFun Try.prog 58 [.val (.int .i64 (k : Int)), .loc 0 0] [.mix 80 [.loc 1 0], .mix 41 [.val (.int .i64 a), .val (.int .i64 b), .slf 256 old.length (old.flatMap tc)]] (.val (.agg (tc (old[k])).toArray)) [.mix 80 [.loc 1 0], .mix 41 [.val (.int .i64 a), .val (.int .i64 b), .slf 256 old.length (old.flatMap tc)]] := by
  refine dcalls_go (N := 11) 2 (by kernel_rfl) Try.func58 rfl rfl rfl (by simp only [fr0, Nat.zero_add, Nat.reduceAdd]; exact rfl) rfl fun s0 hs0 => ?_
  refine zaf ?_
  refine zah 1 (by simp only [holes, List.cons_append, List.nil_append]; exact rfl) ?_
  refine zad ?_
  refine walk_w rfl rfl rfl (op_alloc 2 rfl zr29 rfl) (by simp only [upd, za, zaa]; exact rfl) ?_
  refine zae ?_
  refine zaf ?_
  refine zad ?_
  refine zab rfl rfl rfl (op_ldm rfl tb80 (ev1 rfl) rfl rfl) ?_
  refine zab rfl rfl rfl (op_nc rfl (ev1 rfl) (fun s v h => by cases h; exact ⟨_, rfl⟩)) ?_
  refine zab rfl rfl rfl (op_fa rfl fo41_2 (ev1 rfl)) ?_
  refine zab rfl rfl rfl (op_ldm rfl tb22 (ev1 rfl) rfl rfl) ?_
  refine zab rfl rfl rfl (zac (.inl rfl) (ev1 rfl)) ?_
  refine zab rfl rfl rfl (op_ixsr (j := k) rfl sl22 (ev1 rfl) (ev1 rfl) tc_len (by decide) (by omega) (by omega)) ?_
  refine zab rfl rfl rfl (op_ldwd rfl tb29 (ev1 rfl) (tc_len _)) ?_
  refine walk_s rfl rfl (op_stwa rfl tb29 (ev1 rfl) (ev1 rfl) rfl (tc_len _) (tc_oc _) ((tc_len _).trans (tc_len _).symm)) (by simp only [upd, za, zaa]; exact rfl) ?_
  refine zae ?_
  refine dwp_ret ?_
  refine kend [0, 1] (rs1 rfl (rv_w tb29 rfl rfl (tc_len _))) rfl rfl ?_ ⟨rfl, rfl, trivial⟩
  rfl
set_option maxRecDepth 4000 in
set_option maxHeartbeats 1000000 in
theorem ahead_d (a b : Int) (old : List TL) (k : Nat) (hk : k ≤ old.length) (hl : old.length ≤ 5000) : DFun Try.prog 57 [.val (.int .i64 (k : Int)), .loc 0 0] [.mix 80 [.loc 1 0], .mix 41 [.val (.int .i64 a), .val (.int .i64 b), .slf 256 old.length (old.flatMap tc)]] (.val (.agg (tc (aheadK (old.take k))).toArray)) [.mix 80 [.loc 1 0], .mix 41 [.val (.int .i64 a), .val (.int .i64 b), .slf 256 old.length (old.flatMap tc)]] := by
  refine dcalls_go (N := 15) 2 (by kernel_rfl) Try.func57 rfl rfl rfl (by simp only [fr0, Nat.zero_add, Nat.reduceAdd]; exact rfl) rfl fun s0 hs0 => ?_
  refine zaf ?_
  refine zah 1 (by simp only [holes, List.cons_append, List.nil_append]; exact rfl) ?_
  refine zad ?_
  refine walk_w rfl rfl rfl (op_alloc 2 rfl zr29 rfl) (by simp only [upd, za, zaa]; exact rfl) ?_
  refine zae ?_
  refine zaf ?_
  refine zaf ?_
  refine zad ?_
  refine zab rfl rfl rfl (zac (.inl rfl) (ev1 rfl)) ?_
  refine zab rfl rfl rfl (op_eql rfl (ev1 rfl) (ev1 rfl)) ?_
  refine zae ?_
  refine dwp_cond rfl (fun c1 => ?_) (fun c1 => ?_)
  · try simp only [decide_eq_true_eq, decide_eq_false_iff_not, beq_iff_eq, bne_iff_ne, beq_eq_false_iff_ne, bne_eq_false_iff_eq, Bool.not_eq_true', Bool.not_eq_false', Bool.and_eq_true, Bool.or_eq_true, Bool.or_eq_false_iff, ne_eq, Decidable.not_not, Int.not_lt, Int.not_le] at c1
    obtain rfl : k = 0 := by omega
    refine zaf ?_
    refine zad ?_
    refine zab rfl rfl rfl (op_build0a rfl ar29 zr29) ?_
    refine walk_s rfl rfl (op_stwa rfl tb29 (ev1 rfl) (ev1 rfl) rfl (tc_len _) (tc_oc _) ((tc_len _).trans (tc_len _).symm)) (by simp only [upd, za, zaa]; exact rfl) ?_
    refine zae ?_
    refine dwp_ret ?_
    refine kend [0, 1] (rs1 rfl (rv_w tb29 rfl rfl (tc_len _))) rfl rfl ?_ ⟨rfl, rfl, trivial⟩
    rfl
  · try simp only [decide_eq_true_eq, decide_eq_false_iff_not, beq_iff_eq, bne_iff_ne, beq_eq_false_iff_ne, bne_eq_false_iff_eq, Bool.not_eq_true', Bool.not_eq_false', Bool.and_eq_true, Bool.or_eq_true, Bool.or_eq_false_iff, ne_eq, Decidable.not_not, Int.not_lt, Int.not_le] at c1
    refine dwp_skip ?_
    refine zaf ?_
    refine zad ?_
    refine zab rfl rfl rfl (op_ldm rfl tb80 (ev1 rfl) rfl rfl) ?_
    refine zab rfl rfl rfl (op_nc rfl (ev1 rfl) (fun s v h => by cases h; exact ⟨_, rfl⟩)) ?_
    refine zab rfl rfl rfl (op_fa rfl fo41_2 (ev1 rfl)) ?_
    refine zab rfl rfl rfl (op_ldm rfl tb22 (ev1 rfl) rfl rfl) ?_
    refine zab rfl rfl rfl (zac (.inl rfl) (ev1 rfl)) ?_
    refine zab rfl rfl rfl (op_sub' rfl (ev1 rfl) (ev1 rfl) (fun _ => IntWalk.i64_in _ (by omega))) ?_
    refine zab rfl rfl rfl (op_ixsr (j := k - 1) rfl sl22 (ev1 rfl) (ev1 rfl) tc_len (by decide) (by omega) (by omega)) ?_
    refine zab rfl rfl rfl (op_ldwd rfl tb29 (ev1 rfl) (tc_len _)) ?_
    refine walk_s rfl rfl (op_stwa rfl tb29 (ev1 rfl) (ev1 rfl) rfl (tc_len _) (tc_oc _) ((tc_len _).trans (tc_len _).symm)) (by simp only [upd, za, zaa]; exact rfl) ?_
    refine zae ?_
    refine dwp_ret ?_
    refine kend [0, 1] (rs1 rfl (rv_w tb29 rfl rfl (tc_len _))) rfl rfl ?_ ⟨rfl, rfl, trivial⟩
    rw [aheadK_tk (by omega) hk]
set_option maxRecDepth 4000 in
set_option maxHeartbeats 1000000 in
theorem ahead_f (a b : Int) (old : List TL)  : DFun Try.prog 41 [.loc 0 0] [.mix 41 [.val (.int .i64 a), .val (.int .i64 b), .slf 256 old.length (old.flatMap tc)]] (.fn (.func 57) [] [.loc 1 0]) [.mix 41 [.val (.int .i64 a), .val (.int .i64 b), .slf 256 old.length (old.flatMap tc)], .mix 80 [.loc 0 0]] := by
  refine dcalls_go (N := 4) 1 (by kernel_rfl) Try.func41 rfl rfl rfl (by simp only [fr0, Nat.zero_add, Nat.reduceAdd]; exact rfl) rfl fun s0 hs0 => ?_
  refine zaf ?_
  refine zah 1 (by simp only [holes, List.cons_append, List.nil_append]; exact rfl) ?_
  refine zad ?_
  refine walk_w rfl rfl rfl (op_boxm 1 rfl (ev1 rfl) (fun s v h => by cases h <;> rfl) rfl) (by simp only [upd, za, zaa]; exact rfl) ?_
  refine zab rfl rfl rfl (zac (.inr rfl) (ev1 rfl)) ?_
  refine zae ?_
  refine zaf ?_
  refine zad ?_
  refine zab rfl rfl rfl (op_mkf rfl en (ec (ev1 rfl) en)) ?_
  refine zab rfl rfl rfl (zac (.inr rfl) (ev1 rfl)) ?_
  refine zae ?_
  refine dwp_ret ?_
  refine kend [0, 1] (rs1 rfl (rv_t rfl)) rfl rfl ?_ ⟨rfl, rfl, trivial⟩
  rfl
set_option maxRecDepth 4000 in
set_option maxHeartbeats 1000000 in
theorem there_f (a b : Int) (old : List TL)  : DFun Try.prog 42 [.loc 0 0] [.mix 41 [.val (.int .i64 a), .val (.int .i64 b), .slf 256 old.length (old.flatMap tc)]] (.fn (.func 58) [] [.loc 1 0]) [.mix 41 [.val (.int .i64 a), .val (.int .i64 b), .slf 256 old.length (old.flatMap tc)], .mix 80 [.loc 0 0]] := by
  refine dcalls_go (N := 4) 1 (by kernel_rfl) Try.func42 rfl rfl rfl (by simp only [fr0, Nat.zero_add, Nat.reduceAdd]; exact rfl) rfl fun s0 hs0 => ?_
  refine zaf ?_
  refine zah 1 (by simp only [holes, List.cons_append, List.nil_append]; exact rfl) ?_
  refine zad ?_
  refine walk_w rfl rfl rfl (op_boxm 1 rfl (ev1 rfl) (fun s v h => by cases h <;> rfl) rfl) (by simp only [upd, za, zaa]; exact rfl) ?_
  refine zab rfl rfl rfl (zac (.inr rfl) (ev1 rfl)) ?_
  refine zae ?_
  refine zaf ?_
  refine zad ?_
  refine zab rfl rfl rfl (op_mkf rfl en (ec (ev1 rfl) en)) ?_
  refine zab rfl rfl rfl (zac (.inr rfl) (ev1 rfl)) ?_
  refine zae ?_
  refine dwp_ret ?_
  refine kend [0, 1] (rs1 rfl (rv_t rfl)) rfl rfl ?_ ⟨rfl, rfl, trivial⟩
  rfl
end Go.Proofs.Ytcbfnbfhlofkiaa
namespace Go.Proofs.Ytcbfnbfhlofkiaa
set_option maxRecDepth 4000
set_option linter.unusedVariables false
set_option linter.unusedSimpArgs false
open Go.RowKit
attribute [local irreducible] padT rdP rdN mayG
set_option maxRecDepth 4000 in
set_option maxHeartbeats 1000000 in
theorem ahead_fr (B : List Int) (hB : B.length ≤ 4000000000000000000) (hi : isB B) (w h : Int) (p : Nat) : DFun Try.prog 41 [.loc 0 0] [.mix 71 [.val (.int .i64 w), .val (.int .i64 h), .val (.slice none 0 0), .slf 1 (B).length ((B).flatMap u8V), .val (.int .i64 ((p : Int) : Int))]] (.fn (.func 57) [] [.loc 1 0]) [.mix 71 [.val (.int .i64 w), .val (.int .i64 h), .val (.slice none 0 0), .slf 1 (B).length ((B).flatMap u8V), .val (.int .i64 ((p : Int) : Int))], .mix 80 [.loc 0 0]] := by
  refine dcalls_go (N := 4) 1 (by kernel_rfl) Try.func41 rfl rfl rfl (by simp only [fr0, Nat.zero_add, Nat.reduceAdd]; exact rfl) rfl fun s0 hs0 => ?_
  refine zaf ?_
  refine zah 1 (by simp only [holes, List.cons_append, List.nil_append]; exact rfl) ?_
  refine zad ?_
  refine walk_w rfl rfl rfl (op_boxm 1 rfl (ev1 rfl) (fun s v h => by cases h <;> rfl) rfl) (by simp only [upd, za, zaa]; exact rfl) ?_
  refine zab rfl rfl rfl (zac (.inr rfl) (ev1 rfl)) ?_
  refine zae ?_
  refine zaf ?_
  refine zad ?_
  refine zab rfl rfl rfl (op_mkf rfl en (ec (ev1 rfl) en)) ?_
  refine zab rfl rfl rfl (zac (.inr rfl) (ev1 rfl)) ?_
  refine zae ?_
  refine dwp_ret ?_
  refine kend [0, 1] (rs1 rfl (rv_t rfl)) rfl rfl ?_ ⟨rfl, rfl, trivial⟩
  rfl
set_option maxRecDepth 4000 in
set_option maxHeartbeats 1000000 in
theorem tiles_a (B : List Int) (hB : B.length ≤ 4000000000000000000) (hi : isB B) (w h : Int) (n : Nat) (hm : mayS w h = true) (hn : w * h = (n : Int)) (p0 : Nat) (hp0 : p0 ≤ B.length) (ts : List TL) (q : Nat) (h0 : rdNs aheadK B n [] p0 = some (ts, q)) : DFun Try.prog 46 [.loc 0 0, .fn (.func 57) [] [.loc 1 0]] [.mix 71 [.val (.int .i64 w), .val (.int .i64 h), .val (.slice none 0 0), .slf 1 (B).length ((B).flatMap u8V), .val (.int .i64 ((p0 : Nat) : Int))], .mix 80 [.loc 0 0]] (.tup []) [.mix 71 [.val (.int .i64 w), .val (.int .i64 h), .arr 2, .slf 1 (B).length ((B).flatMap u8V), .val (.int .i64 ((q : Nat) : Int))], .mix 80 [.loc 0 0], .arr 29 256 (ts).length ((ts).flatMap tc)] := by
  have hb := mul_in hm
  refine dcalls_go (N := 28) 2 (by kernel_rfl) Try.func46 rfl rfl rfl (by simp only [fr0, Nat.zero_add, Nat.reduceAdd]; exact rfl) rfl fun s0 hs0 => ?_
  refine zaf ?_
  refine zad ?_
  refine zab rfl rfl rfl (zac (.inl rfl) (ev1 rfl)) ?_
  refine zab rfl rfl rfl (op_mkf rfl (ec (ev1 rfl) en) en) ?_
  refine zab rfl rfl rfl (zac (.inr rfl) (ev1 rfl)) ?_
  refine zae ?_
  refine zaf ?_
  refine dwp_adoptc (l' := [.val (.int .i64 w), .val (.int .i64 h), .arr 2, .slf 1 (B).length ((B).flatMap u8V), .val (.int .i64 (p0 : Int))]) 0 2 29 256 rfl rfl rfl rfl (by simp only [List.cons_append, List.nil_append, za, zaa]; exact rfl) ?_
  refine dwp_reb 2 reb_arr rfl rfl (by simp only [List.cons_append, List.nil_append, za, zaa, List.length_cons, List.length_nil, Nat.zero_add, Nat.reduceAdd]; exact rfl) ?_
  refine dwp_draw [([], []), ([], []), ([], []), ([], []), ([0], []), ([], []), ([], []), ([], []), ([], []), ([0], []), ([], []), ([], [])] mixed (by kernel_rfl) ?_
  refine zag rfl rfl (zac (.inl rfl) (ev1 rfl)) ?_
  refine zag rfl rfl (op_nc rfl (ev1 rfl) (fun s v h => by cases h; exact ⟨_, rfl⟩)) ?_
  refine zag rfl rfl (op_fa rfl fo71_0 (ev1 rfl)) ?_
  refine zag rfl rfl (op_fa rfl fo41_0 (ev1 rfl)) ?_
  refine zag rfl rfl (op_ldm rfl tb3 (ev1 rfl) rfl rfl) ?_
  refine zag rfl rfl (zac (.inl rfl) (ev1 rfl)) ?_
  refine zag rfl rfl (op_nc rfl (ev1 rfl) (fun s v h => by cases h; exact ⟨_, rfl⟩)) ?_
  refine zag rfl rfl (op_fa rfl fo71_0 (ev1 rfl)) ?_
  refine zag rfl rfl (op_fa rfl fo41_1 (ev1 rfl)) ?_
  refine zag rfl rfl (op_ldm rfl tb3 (ev1 rfl) rfl rfl) ?_
  refine zag rfl rfl (op_mul' rfl (ev1 rfl) (ev1 rfl) (fun _ => IntWalk.i64_in _ (by omega))) ?_
  refine zag rfl rfl (zac (.inl rfl) (ev1 rfl)) ?_
  refine lex_nil ?_
  refine dwp_block ?_
  refine dwp_loopS ⟨hs0, rfl⟩ (α := List TL × Nat) (fun x => [(19, .val (.int .i64 (x.1.length : Int)))]) [(1, _), (4, _), (18, _)] (fun x => [(0, .mix 71 [.val (.int .i64 w), .val (.int .i64 h), .arr 2, .slf 1 (B).length ((B).flatMap u8V), .val (.int .i64 ((x.2 : Nat) : Int))]), (2, .arr 29 256 (x.1).length ((x.1).flatMap tc))]) [.hole, _, .hole] (fun x => x.1.length ≤ n ∧ x.2 ≤ B.length ∧ rdNs aheadK B (n - x.1.length) x.1 x.2 = some (ts, q)) (fun x => n - x.1.length) ([], p0) [0, 1, 2] (⟨Nat.zero_le _, hp0, h0⟩) rfl ⟨rfl, rfl, rfl, trivial⟩ ⟨rfl, trivial⟩ ⟨rfl, rfl, rfl, trivial⟩ ?_
  intro x hx
  simp only [upd, za, zaa, List.cons_append, List.nil_append]
  obtain ⟨us, p⟩ := x
  obtain ⟨hul, hp, hrd⟩ := hx
  dsimp only at hul hp hrd ⊢
  refine zaf ?_
  refine zad ?_
  refine zab rfl rfl rfl (op_lss rfl (ev1 rfl) (ev1 rfl)) ?_
  refine zae ?_
  refine zaf ?_
  refine dwp_cond rfl (fun c1 => ?_) (fun c1 => ?_)
  · try simp only [decide_eq_true_eq, decide_eq_false_iff_not, beq_iff_eq, bne_iff_ne, beq_eq_false_iff_ne, bne_eq_false_iff_eq, Bool.not_eq_true', Bool.not_eq_false', Bool.and_eq_true, Bool.or_eq_true, Bool.or_eq_false_iff, ne_eq, Decidable.not_not, Int.not_lt, Int.not_le] at c1
    have hlt : us.length < n := by omega
    refine dwp_skip ?_
    refine zaf ?_
    refine dwp_block ?_
    refine zaf ?_
    refine zad ?_
    refine zab rfl rfl rfl (zac (.inl rfl) (ev1 rfl)) ?_
    refine zab rfl rfl rfl (zac (.inr rfl) (ev1 rfl)) ?_
    refine zae ?_
    by_cases hz : zrB B p = true
    · refine zah 1 (by simp only [holes, List.cons_append, List.nil_append]; exact rfl) ?_
      refine zad ?_
      refine zab rfl rfl rfl (zac (.inl rfl) (ev1 rfl)) ?_
      refine zab rfl rfl rfl (zac (.inl rfl) (ev1 rfl)) ?_
      refine zab rfl rfl rfl (zac (.inl rfl) (ev1 rfl)) ?_
      refine walk_w rfl rfl rfl (zaj [0, 2, 1] [] [] rfl (ev1 rfl) (ec (ev1 rfl) en) rfl rfl (ahead_r B hB w h us (by omega) p) rfl rfl rfl rfl rfl rfl) (by simp only [upd, za, zaa]; exact rfl) ?_
      refine walk_w rfl rfl rfl (zaj [0, 2] [] [3] rfl (ev1 rfl) (ec (ev1 rfl) en) rfl rfl (next_z B hB w h us (by omega) hi (aheadK us) p hp (zrB_iff.1 hz)) rfl rfl rfl rfl rfl rfl) (by simp only [upd, za, zaa]; exact rfl) ?_
      refine zae ?_
      refine zad ?_
      refine zab rfl rfl rfl (op_add' rfl (ev1 rfl) (ev1 rfl) (fun _ => IntWalk.i64_in _ (by omega))) ?_
      refine zab rfl rfl rfl (zac (.inl rfl) (ev1 rfl)) ?_
      refine zae ?_
      refine ⟨(us ++ [aheadK us], p + 1), [0, 1, 3], ⟨by rw [List.length_append]; exact hlt, (zrB_iff.1 hz).1, by rw [List.length_append]; exact rdNs_z (n := n - us.length) (by omega) hz hrd⟩, by simp only [List.length_append, List.length_cons, List.length_nil]; omega, rfl, ⟨by rw [List.length_append]; rfl, rfl, rfl, rfl, trivial⟩, ⟨rfl, rfl, rfl, trivial⟩⟩
    · obtain ⟨l, q1, hl0, hne⟩ := rdNs_some (n := n - us.length) (by omega) hz hrd
      refine zah 1 (by simp only [holes, List.cons_append, List.nil_append]; exact rfl) ?_
      refine zad ?_
      refine zab rfl rfl rfl (zac (.inl rfl) (ev1 rfl)) ?_
      refine zab rfl rfl rfl (zac (.inl rfl) (ev1 rfl)) ?_
      refine zab rfl rfl rfl (zac (.inl rfl) (ev1 rfl)) ?_
      refine walk_w rfl rfl rfl (zaj [0, 2, 1] [] [] rfl (ev1 rfl) (ec (ev1 rfl) en) rfl rfl (ahead_r B hB w h us (by omega) p) rfl rfl rfl rfl rfl rfl) (by simp only [upd, za, zaa]; exact rfl) ?_
      refine walk_w rfl rfl rfl (zaj [0, 2] [] [3] rfl (ev1 rfl) (ec (ev1 rfl) en) rfl rfl (next_t B hB w h us (by omega) hi (aheadK us) p hp (fun e => hz (zrB_iff.2 e)) l q1 hl0 hne) rfl rfl rfl rfl rfl rfl) (by simp only [upd, za, zaa]; exact rfl) ?_
      refine zae ?_
      refine zad ?_
      refine zab rfl rfl rfl (op_add' rfl (ev1 rfl) (ev1 rfl) (fun _ => IntWalk.i64_in _ (by omega))) ?_
      refine zab rfl rfl rfl (zac (.inl rfl) (ev1 rfl)) ?_
      refine zae ?_
      refine ⟨(us ++ [padT l], q1), [0, 1, 3], ⟨by rw [List.length_append]; exact hlt, (rdN_le hl0).1, by rw [List.length_append]; exact rdNs_t (n := n - us.length) (by omega) hz hl0 hne hrd⟩, by simp only [List.length_append, List.length_cons, List.length_nil]; omega, rfl, ⟨by rw [List.length_append]; rfl, rfl, rfl, rfl, trivial⟩, ⟨rfl, rfl, rfl, trivial⟩⟩
  · try simp only [decide_eq_true_eq, decide_eq_false_iff_not, beq_iff_eq, bne_iff_ne, beq_eq_false_iff_ne, bne_eq_false_iff_eq, Bool.not_eq_true', Bool.not_eq_false', Bool.and_eq_true, Bool.or_eq_true, Bool.or_eq_false_iff, ne_eq, Decidable.not_not, Int.not_lt, Int.not_le] at c1
    refine dwp_exit ?_
    have e0 : n - us.length = 0 := by omega
    rw [e0] at hrd
    have hrd2 : some (us, p) = some (ts, q) := hrd
    cases hrd2
    refine kend [0, 1, 2] (res_none rfl) rfl rfl ?_ ⟨rfl, rfl, rfl, trivial⟩
    rfl
set_option maxRecDepth 4000 in
set_option maxHeartbeats 1000000 in
theorem tiles_an (B : List Int) (hB : B.length ≤ 4000000000000000000) (hi : isB B) (w h : Int) (n : Nat) (hm : mayS w h = true) (hn : w * h = (n : Int)) (p0 : Nat) (hp0 : p0 ≤ B.length) (h0 : rdNs aheadK B n [] p0 = none) : DPanL Try.prog 46 [.loc 0 0, .fn (.func 57) [] [.loc 1 0]] [.mix 71 [.val (.int .i64 w), .val (.int .i64 h), .val (.slice none 0 0), .slf 1 (B).length ((B).flatMap u8V), .val (.int .i64 ((p0 : Nat) : Int))], .mix 80 [.loc 0 0]] (.ifc 86 (.val (.agg #[]))) := by
  have hb := mul_in hm
  refine dcalls_go (N := 28) 2 (by kernel_rfl) Try.func46 rfl rfl rfl (by simp only [fr0, Nat.zero_add, Nat.reduceAdd]; exact rfl) rfl fun s0 hs0 => ?_
  refine zaf ?_
  refine zad ?_
  refine zab rfl rfl rfl (zac (.inl rfl) (ev1 rfl)) ?_
  refine zab rfl rfl rfl (op_mkf rfl (ec (ev1 rfl) en) en) ?_
  refine zab rfl rfl rfl (zac (.inr rfl) (ev1 rfl)) ?_
  refine zae ?_
  refine zaf ?_
  refine dwp_adoptc (l' := [.val (.int .i64 w), .val (.int .i64 h), .arr 2, .slf 1 (B).length ((B).flatMap u8V), .val (.int .i64 (p0 : Int))]) 0 2 29 256 rfl rfl rfl rfl (by simp only [List.cons_append, List.nil_append, za, zaa]; exact rfl) ?_
  refine dwp_reb 2 reb_arr rfl rfl (by simp only [List.cons_append, List.nil_append, za, zaa, List.length_cons, List.length_nil, Nat.zero_add, Nat.reduceAdd]; exact rfl) ?_
  refine dwp_draw [([], []), ([], []), ([], []), ([], []), ([0], []), ([], []), ([], []), ([], []), ([], []), ([0], []), ([], []), ([], [])] mixed (by kernel_rfl) ?_
  refine zag rfl rfl (zac (.inl rfl) (ev1 rfl)) ?_
  refine zag rfl rfl (op_nc rfl (ev1 rfl) (fun s v h => by cases h; exact ⟨_, rfl⟩)) ?_
  refine zag rfl rfl (op_fa rfl fo71_0 (ev1 rfl)) ?_
  refine zag rfl rfl (op_fa rfl fo41_0 (ev1 rfl)) ?_
  refine zag rfl rfl (op_ldm rfl tb3 (ev1 rfl) rfl rfl) ?_
  refine zag rfl rfl (zac (.inl rfl) (ev1 rfl)) ?_
  refine zag rfl rfl (op_nc rfl (ev1 rfl) (fun s v h => by cases h; exact ⟨_, rfl⟩)) ?_
  refine zag rfl rfl (op_fa rfl fo71_0 (ev1 rfl)) ?_
  refine zag rfl rfl (op_fa rfl fo41_1 (ev1 rfl)) ?_
  refine zag rfl rfl (op_ldm rfl tb3 (ev1 rfl) rfl rfl) ?_
  refine zag rfl rfl (op_mul' rfl (ev1 rfl) (ev1 rfl) (fun _ => IntWalk.i64_in _ (by omega))) ?_
  refine zag rfl rfl (zac (.inl rfl) (ev1 rfl)) ?_
  refine lex_nil ?_
  refine dwp_block ?_
  refine dwp_loopS ⟨hs0, rfl⟩ (α := List TL × Nat) (fun x => [(19, .val (.int .i64 (x.1.length : Int)))]) [(1, _), (4, _), (18, _)] (fun x => [(0, .mix 71 [.val (.int .i64 w), .val (.int .i64 h), .arr 2, .slf 1 (B).length ((B).flatMap u8V), .val (.int .i64 ((x.2 : Nat) : Int))]), (2, .arr 29 256 (x.1).length ((x.1).flatMap tc))]) [.hole, _, .hole] (fun x => x.1.length ≤ n ∧ x.2 ≤ B.length ∧ rdNs aheadK B (n - x.1.length) x.1 x.2 = none) (fun x => n - x.1.length) ([], p0) [0, 1, 2] (⟨Nat.zero_le _, hp0, h0⟩) rfl ⟨rfl, rfl, rfl, trivial⟩ ⟨rfl, trivial⟩ ⟨rfl, rfl, rfl, trivial⟩ ?_
  intro x hx
  simp only [upd, za, zaa, List.cons_append, List.nil_append]
  obtain ⟨us, p⟩ := x
  obtain ⟨hul, hp, hrd⟩ := hx
  dsimp only at hul hp hrd ⊢
  refine zaf ?_
  refine zad ?_
  refine zab rfl rfl rfl (op_lss rfl (ev1 rfl) (ev1 rfl)) ?_
  refine zae ?_
  refine zaf ?_
  refine dwp_cond rfl (fun c1 => ?_) (fun c1 => ?_)
  · try simp only [decide_eq_true_eq, decide_eq_false_iff_not, beq_iff_eq, bne_iff_ne, beq_eq_false_iff_ne, bne_eq_false_iff_eq, Bool.not_eq_true', Bool.not_eq_false', Bool.and_eq_true, Bool.or_eq_true, Bool.or_eq_false_iff, ne_eq, Decidable.not_not, Int.not_lt, Int.not_le] at c1
    have hlt : us.length < n := by omega
    refine dwp_skip ?_
    refine zaf ?_
    refine dwp_block ?_
    refine zaf ?_
    refine zad ?_
    refine zab rfl rfl rfl (zac (.inl rfl) (ev1 rfl)) ?_
    refine zab rfl rfl rfl (zac (.inr rfl) (ev1 rfl)) ?_
    refine zae ?_
    by_cases hz : zrB B p = true
    · refine zah 1 (by simp only [holes, List.cons_append, List.nil_append]; exact rfl) ?_
      refine zad ?_
      refine zab rfl rfl rfl (zac (.inl rfl) (ev1 rfl)) ?_
      refine zab rfl rfl rfl (zac (.inl rfl) (ev1 rfl)) ?_
      refine zab rfl rfl rfl (zac (.inl rfl) (ev1 rfl)) ?_
      refine walk_w rfl rfl rfl (zaj [0, 2, 1] [] [] rfl (ev1 rfl) (ec (ev1 rfl) en) rfl rfl (ahead_r B hB w h us (by omega) p) rfl rfl rfl rfl rfl rfl) (by simp only [upd, za, zaa]; exact rfl) ?_
      refine walk_w rfl rfl rfl (zaj [0, 2] [] [3] rfl (ev1 rfl) (ec (ev1 rfl) en) rfl rfl (next_z B hB w h us (by omega) hi (aheadK us) p hp (zrB_iff.1 hz)) rfl rfl rfl rfl rfl rfl) (by simp only [upd, za, zaa]; exact rfl) ?_
      refine zae ?_
      refine zad ?_
      refine zab rfl rfl rfl (op_add' rfl (ev1 rfl) (ev1 rfl) (fun _ => IntWalk.i64_in _ (by omega))) ?_
      refine zab rfl rfl rfl (zac (.inl rfl) (ev1 rfl)) ?_
      refine zae ?_
      refine ⟨(us ++ [aheadK us], p + 1), [0, 1, 3], ⟨by rw [List.length_append]; exact hlt, (zrB_iff.1 hz).1, by rw [List.length_append]; exact rdNs_z (n := n - us.length) (by omega) hz hrd⟩, by simp only [List.length_append, List.length_cons, List.length_nil]; omega, rfl, ⟨by rw [List.length_append]; rfl, rfl, rfl, rfl, trivial⟩, ⟨rfl, rfl, rfl, trivial⟩⟩
    · by_cases hno : ∀ l q, rdN B p = some (l, q) → padT l = aheadK us
      · refine zad ?_
        refine zab rfl rfl rfl (zac (.inl rfl) (ev1 rfl)) ?_
        refine zab rfl rfl rfl (zac (.inl rfl) (ev1 rfl)) ?_
        refine zab rfl rfl rfl (zac (.inl rfl) (ev1 rfl)) ?_
        refine walk_w rfl rfl rfl (zaj [0, 2, 1] [] [] rfl (ev1 rfl) (ec (ev1 rfl) en) rfl rfl (ahead_r B hB w h us (by omega) p) rfl rfl rfl rfl rfl rfl) (by simp only [upd, za, zaa]; exact rfl) ?_
        refine walk_p rfl (dop_callP [0, 2] [] [] rfl (ev1 rfl) (ec (ev1 rfl) en) rfl rfl ((next_n B hB w h us (by omega) hi (aheadK us) p hp (fun e => hz (zrB_iff.2 e)) hno).dead) rfl rfl rfl rfl rfl rfl) rfl ?_
        refine kpanL (Mo := [_, _]) [0, 1] rfl rfl ?_ ⟨rfl, rfl, trivial⟩ rfl
        rfl
      · obtain ⟨l, q1, hl0, hne⟩ : ∃ l q, rdN B p = some (l, q) ∧ padT l ≠ aheadK us := by simpa using hno
        refine zah 1 (by simp only [holes, List.cons_append, List.nil_append]; exact rfl) ?_
        refine zad ?_
        refine zab rfl rfl rfl (zac (.inl rfl) (ev1 rfl)) ?_
        refine zab rfl rfl rfl (zac (.inl rfl) (ev1 rfl)) ?_
        refine zab rfl rfl rfl (zac (.inl rfl) (ev1 rfl)) ?_
        refine walk_w rfl rfl rfl (zaj [0, 2, 1] [] [] rfl (ev1 rfl) (ec (ev1 rfl) en) rfl rfl (ahead_r B hB w h us (by omega) p) rfl rfl rfl rfl rfl rfl) (by simp only [upd, za, zaa]; exact rfl) ?_
        refine walk_w rfl rfl rfl (zaj [0, 2] [] [3] rfl (ev1 rfl) (ec (ev1 rfl) en) rfl rfl (next_t B hB w h us (by omega) hi (aheadK us) p hp (fun e => hz (zrB_iff.2 e)) l q1 hl0 hne) rfl rfl rfl rfl rfl rfl) (by simp only [upd, za, zaa]; exact rfl) ?_
        refine zae ?_
        refine zad ?_
        refine zab rfl rfl rfl (op_add' rfl (ev1 rfl) (ev1 rfl) (fun _ => IntWalk.i64_in _ (by omega))) ?_
        refine zab rfl rfl rfl (zac (.inl rfl) (ev1 rfl)) ?_
        refine zae ?_
        refine ⟨(us ++ [padT l], q1), [0, 1, 3], ⟨by rw [List.length_append]; exact hlt, (rdN_le hl0).1, by rw [List.length_append]; exact rdNs_t (n := n - us.length) (by omega) hz hl0 hne hrd⟩, by simp only [List.length_append, List.length_cons, List.length_nil]; omega, rfl, ⟨by rw [List.length_append]; rfl, rfl, rfl, rfl, trivial⟩, ⟨rfl, rfl, rfl, trivial⟩⟩
  · have c2 : ¬ ((us.length : Int) < w * h) := by simpa using c1
    have e0 : n - us.length = 0 := by omega
    rw [e0] at hrd
    exact absurd (show some (us, p) = none from hrd) (fun e => by cases e)
end Go.Proofs.Ytcbfnbfhlofkiaa
namespace Go.Proofs.Ytcbfnbfhlofkiaa
set_option maxRecDepth 4000
set_option linter.unusedVariables false
set_option linter.unusedSimpArgs false
open Go.RowKit
attribute [local irreducible] padT rdP rdN mayG rdNs
theorem fl41 : fdL Try.prog 41 = some [(0, 1), (1, 1), (2, 1)] := by kernel_rfl
theorem tb41 : tyB Try.prog 41 = some (true, 3) := by kernel_rfl
theorem zr41 : zrC Try.prog 41 = some [.int .i64 0, .int .i64 0, .slice none 0 0] := by kernel_rfl
set_option maxRecDepth 4000 in
set_option maxHeartbeats 1000000 in
theorem rc1_idle (w h : Int) (us : List TL) (n e : Int) : DDef Try.prog 44 [.loc 0 0, .loc 1 0, .loc 2 0] [.mix 41 [.val (.int .i64 w), .val (.int .i64 h), .arr 3], .flat 3 [.int .i64 n], .flat 33 [.int .i64 e], .arr 29 256 (us).length ((us).flatMap tc)] none none [.mix 41 [.val (.int .i64 w), .val (.int .i64 h), .arr 3], .flat 3 [.int .i64 n], .flat 33 [.int .i64 e], .arr 29 256 (us).length ((us).flatMap tc)] := by
  refine ddef_go (dr := .tup []) (t := 3) (N := 6) 4 (by kernel_rfl) Try.func44 rfl rfl rfl (by simp only [fr0, Nat.zero_add, Nat.reduceAdd]; exact rfl) rfl rfl rfl rfl rfl fun s0 hs0 => ?_
  refine zab rfl rfl rfl (zaj [] [] [] rfl (ev1 rfl) (ec (ev1 rfl) en) rfl rfl (failed_no) rfl rfl rfl rfl rfl rfl) ?_
  refine zae ?_
  refine dwp_if_f rfl (rfl) ?_
  refine dwp_skip ?_
  refine kend [0, 1, 2, 3] (res_none rfl) rfl rfl ?_ ⟨rfl, rfl, rfl, rfl, trivial⟩
  rfl
set_option maxRecDepth 4000 in
set_option maxHeartbeats 1000000 in
theorem rc1_caught (n e : Int) : DDef Try.prog 44 [.loc 0 0, .loc 1 0, .loc 2 0] [.flat 41 [.int .i64 0, .int .i64 0, .slice none 0 0], .flat 3 [.int .i64 n], .flat 33 [.int .i64 e]] (some (.ifc 86 (.val (.agg #[])))) none [.flat 41 [.int .i64 0, .int .i64 0, .slice none 0 0], .flat 3 [.int .i64 0], .flat 33 [.int .i64 200]] := by
  refine ddef_go (dr := .tup []) (t := 3) (N := 6) 3 (by kernel_rfl) Try.func44 rfl rfl rfl (by simp only [fr0, Nat.zero_add, Nat.reduceAdd]; exact rfl) rfl rfl rfl rfl rfl fun s0 hs0 => ?_
  refine zab rfl rfl rfl (zaj [] [] [] rfl (ev1 rfl) (ec (ev1 rfl) en) rfl rfl (failed_y) rfl rfl rfl rfl rfl rfl) ?_
  refine zae ?_
  refine dwp_if_t rfl (rfl) ?_
  refine zad ?_
  refine zab rfl rfl rfl (op_build0 rfl fl41 zr41) ?_
  refine walk_s rfl rfl (op_stwa rfl tb41 (ev1 rfl) (ev1 rfl) rfl rfl rfl rfl) (by simp only [upd, za, zaa]; exact rfl) ?_
  refine walk_s rfl rfl (op_stwi rfl tb3 (ev1 rfl) (ev1 rfl) rfl) (by simp only [upd, za, zaa]; exact rfl) ?_
  refine walk_s rfl rfl (op_stwi rfl tb33 (ev1 rfl) (ev1 rfl) rfl) (by simp only [upd, za, zaa]; exact rfl) ?_
  refine zae ?_
  refine kend [0, 1, 2] (res_none rfl) rfl rfl ?_ ⟨rfl, rfl, rfl, trivial⟩
  rfl
set_option maxRecDepth 4000 in
set_option maxHeartbeats 1000000 in
theorem rdc_y (B : List Int) (hB : B.length ≤ 4000000000000000000) (hi : isB B) (n : Nat) (h2 : 0 + 2 ≤ B.length) (hm : mayS (bAt B 0) (bAt B 1) = true) (hn : bAt B 0 * bAt B 1 = (n : Int)) (ts : List TL) (q : Nat) (h0 : rdNs aheadK B n [] 2 = some (ts, q)) : DFun Try.prog 23 [.slf 1 (B).length ((B).flatMap u8V)] [] (.tup [.agg [.val (.int .i64 (bAt B 0)), .val (.int .i64 (bAt B 1)), .arr 0], .val (.int .i64 (q : Nat)), .val (.int .i64 0)]) [.arr 29 256 (ts).length ((ts).flatMap tc)] := by
  refine dcalls_body (N := 17) 0 (by kernel_rfl) Try.func23 rfl rfl rfl (by simp only [fr0, Nat.zero_add, Nat.reduceAdd]; exact rfl) rfl fun s0 hs0 => ?_
  refine dbody_seq rfl hs0 ?_
  refine zah 3 (by simp only [holes, List.cons_append, List.nil_append]; exact rfl) ?_
  refine zad ?_
  refine walk_w rfl rfl rfl (op_alloc 0 rfl zr41 rfl) (by simp only [upd, za, zaa]; exact rfl) ?_
  refine walk_w rfl rfl rfl (op_alloc 1 rfl zr3 rfl) (by simp only [upd, za, zaa]; exact rfl) ?_
  refine walk_w rfl rfl rfl (op_alloc 2 rfl zr33 rfl) (by simp only [upd, za, zaa]; exact rfl) ?_
  refine zae ?_
  refine dbody_defer (l0 := [_]) rfl rfl rfl rfl rfl hs0 ?_
  refine zab rfl rfl rfl (op_mkf rfl en (ec (ev1 rfl) (ec (ev1 rfl) (ec (ev1 rfl) en)))) ?_
  refine zae ⟨_, _, _, 3, ev1 rfl, Nat.le_trans hs0 (by decide), rfl, ?_⟩
  have hs1 : s0.M.length ≤ 3 := Nat.le_trans hs0 (by decide)
  refine dbody_end rfl hs0 ?_
  refine zaf ?_
  refine zah 1 (by simp only [holes, List.cons_append, List.nil_append]; exact rfl) ?_
  refine zad ?_
  refine zab rfl rfl rfl (zac (.inl rfl) (ev1 rfl)) ?_
  refine zab rfl rfl rfl (op_bldD (ps := [(1, .tmp 7)]) rfl fl71 zr71 (ec (ev1 rfl) en) rfl rfl rfl) ?_
  refine walk_w rfl rfl rfl (op_alloc 3 rfl zr71 rfl) (by simp only [upd, za, zaa]; exact rfl) ?_
  refine walk_s rfl rfl (op_stam rfl tb71 (ev1 rfl) (ev1 rfl) rfl rfl rfl rfl) (by simp only [upd, za, zaa]; exact rfl) ?_
  refine zae ?_
  refine zaf ?_
  refine zad ?_
  refine walk_w rfl rfl rfl (zaj [3] [] [] rfl (ev1 rfl) (ec (ev1 rfl) en) rfl rfl (sizes_ok B hB hi n h2 hm hn) rfl rfl rfl rfl rfl rfl) (by simp only [upd, za, zaa]; exact rfl) ?_
  refine zae ?_
  refine zaf ?_
  refine zah 2 (by simp only [holes, List.cons_append, List.nil_append]; exact rfl) ?_
  refine zad ?_
  refine zab rfl rfl rfl (op_fa rfl fo71_0 (ev1 rfl)) ?_
  refine walk_w rfl rfl rfl (zaj [3] [] [4] rfl (ev1 rfl) (ec (ev1 rfl) en) rfl rfl (ahead_fr B hB hi (bAt B 0) (bAt B 1) 2) rfl rfl rfl rfl rfl rfl) (by simp only [upd, za, zaa]; exact rfl) ?_
  refine walk_w rfl rfl rfl (zaj [3, 4] [] [5] rfl (ev1 rfl) (ec (ev1 rfl) (ec (ev1 rfl) en)) rfl rfl (tiles_a B hB hi (bAt B 0) (bAt B 1) n hm hn 2 h2 ts q h0) rfl rfl rfl rfl rfl rfl) (by simp only [upd, za, zaa]; exact rfl) ?_
  refine zae ?_
  refine zaf ?_
  refine dwp_draw [([], []), ([3], []), ([], []), ([3], []), ([0], [0]), ([1], [1]), ([2], [2])] mixed (by kernel_rfl) ?_
  refine zag rfl rfl (op_fa rfl fo71_0 (ev1 rfl)) ?_
  refine zag rfl rfl (op_ldmp rfl tb41 (ev1 rfl) rfl rfl rfl) ?_
  refine zag rfl rfl (op_fa rfl fo71_2 (ev1 rfl)) ?_
  refine zag rfl rfl (op_ldm rfl tb3 (ev1 rfl) rfl rfl) ?_
  refine lex_s rfl rfl (op_stam rfl tb41 (ev1 rfl) (ev1 rfl) rfl rfl rfl rfl) rfl (by simp only [upd, za, zaa]; exact rfl) ?_
  refine lex_s rfl rfl (op_stwi rfl tb3 (ev1 rfl) (ev1 rfl) rfl) rfl (by simp only [upd, za, zaa]; exact rfl) ?_
  refine lex_s rfl rfl (op_stwi rfl tb33 (ev1 rfl) (ev1 rfl) rfl) rfl (by simp only [upd, za, zaa]; exact rfl) ?_
  refine lex_nil ?_
  refine dwp_ret ?_
  refine kdef (dturn_idle [0, 1, 2, 5] [] rfl rfl (rc1_idle _ _ _ _ _) rfl rfl rfl rfl rfl) ?_
  refine kend [5] (rs3 rfl (rv_mw tb41 rfl rfl rfl) (rv_1 tb3 rfl rfl rfl) (rv_1 tb33 rfl rfl rfl)) rfl rfl ?_ ⟨rfl, trivial⟩
  rfl
set_option maxRecDepth 4000 in
set_option maxHeartbeats 1000000 in
theorem rdc_n3 (B : List Int) (hB : B.length ≤ 4000000000000000000) (hi : isB B) (n : Nat) (h2 : 0 + 2 ≤ B.length) (hm : mayS (bAt B 0) (bAt B 1) = true) (hn : bAt B 0 * bAt B 1 = (n : Int)) (h0 : rdNs aheadK B n [] 2 = none) : DFun Try.prog 23 [.slf 1 (B).length ((B).flatMap u8V)] [] (.tup [.val (.agg #[.int .i64 0, .int .i64 0, .slice none 0 0]), .val (.int .i64 0), .val (.int .i64 200)]) [] := by
  refine dcalls_body (N := 17) 0 (by kernel_rfl) Try.func23 rfl rfl rfl (by simp only [fr0, Nat.zero_add, Nat.reduceAdd]; exact rfl) rfl fun s0 hs0 => ?_
  refine dbody_seq rfl hs0 ?_
  refine zah 3 (by simp only [holes, List.cons_append, List.nil_append]; exact rfl) ?_
  refine zad ?_
  refine walk_w rfl rfl rfl (op_alloc 0 rfl zr41 rfl) (by simp only [upd, za, zaa]; exact rfl) ?_
  refine walk_w rfl rfl rfl (op_alloc 1 rfl zr3 rfl) (by simp only [upd, za, zaa]; exact rfl) ?_
  refine walk_w rfl rfl rfl (op_alloc 2 rfl zr33 rfl) (by simp only [upd, za, zaa]; exact rfl) ?_
  refine zae ?_
  refine dbody_defer (l0 := [_]) rfl rfl rfl rfl rfl hs0 ?_
  refine zab rfl rfl rfl (op_mkf rfl en (ec (ev1 rfl) (ec (ev1 rfl) (ec (ev1 rfl) en)))) ?_
  refine zae ⟨_, _, _, 3, ev1 rfl, Nat.le_trans hs0 (by decide), rfl, ?_⟩
  have hs1 : s0.M.length ≤ 3 := Nat.le_trans hs0 (by decide)
  refine dbody_end rfl hs0 ?_
  refine zaf ?_
  refine zah 1 (by simp only [holes, List.cons_append, List.nil_append]; exact rfl) ?_
  refine zad ?_
  refine zab rfl rfl rfl (zac (.inl rfl) (ev1 rfl)) ?_
  refine zab rfl rfl rfl (op_bldD (ps := [(1, .tmp 7)]) rfl fl71 zr71 (ec (ev1 rfl) en) rfl rfl rfl) ?_
  refine walk_w rfl rfl rfl (op_alloc 3 rfl zr71 rfl) (by simp only [upd, za, zaa]; exact rfl) ?_
  refine walk_s rfl rfl (op_stam rfl tb71 (ev1 rfl) (ev1 rfl) rfl rfl rfl rfl) (by simp only [upd, za, zaa]; exact rfl) ?_
  refine zae ?_
  refine zaf ?_
  refine zad ?_
  refine walk_w rfl rfl rfl (zaj [3] [] [] rfl (ev1 rfl) (ec (ev1 rfl) en) rfl rfl (sizes_ok B hB hi n h2 hm hn) rfl rfl rfl rfl rfl rfl) (by simp only [upd, za, zaa]; exact rfl) ?_
  refine zae ?_
  refine zaf ?_
  refine zah 1 (by simp only [holes, List.cons_append, List.nil_append]; exact rfl) ?_
  refine zad ?_
  refine zab rfl rfl rfl (op_fa rfl fo71_0 (ev1 rfl)) ?_
  refine walk_w rfl rfl rfl (zaj [3] [] [4] rfl (ev1 rfl) (ec (ev1 rfl) en) rfl rfl (ahead_fr B hB hi (bAt B 0) (bAt B 1) 2) rfl rfl rfl rfl rfl rfl) (by simp only [upd, za, zaa]; exact rfl) ?_
  refine walk_p rfl (dop_callP [3, 4] [] [] rfl (ev1 rfl) (ec (ev1 rfl) (ec (ev1 rfl) en)) rfl rfl ((tiles_an B hB hi (bAt B 0) (bAt B 1) n hm hn 2 h2 h0).dead) rfl rfl rfl rfl rfl rfl) rfl ?_
  refine kdef (dturn_caught [0, 1, 2] [] rfl rfl rfl (rc1_caught _ _) rfl rfl rfl rfl rfl) ?_
  refine kend0 (rs3 rfl (rv_w tb41 rfl rfl rfl) (rv_1 tb3 rfl rfl rfl) (rv_1 tb33 rfl rfl rfl)) rfl ?_
  rfl
theorem right_may {w h : Int} {ts : List TL} (hr : rightB w h ts = true) : mayS w h = true := by
  unfold rightB at hr
  rw [Bool.and_eq_true] at hr
  exact hr.1
end Go.Proofs.Ytcbfnbfhlofkiaa
namespace Go.Proofs.Ytcbfnbfhlofkiaa
set_option maxRecDepth 4000
set_option linter.unusedVariables false
set_option linter.unusedSimpArgs false
open Go.RowKit
attribute [local irreducible] runG bytesG posG tileB tilesB
theorem tb78 : tyB Try.prog 78 = some (false, 1) := by kernel_rfl
def stepK (t u : TL) : List Int := if t = u then [0] else tileB t
theorem tilesB_app (kn : List TL → TL) : ∀ (a acc b : List TL), tilesB kn acc (a ++ b) = tilesB kn acc a ++ tilesB kn (acc ++ a) b
  | [], acc, b => by rw [List.nil_append, List.append_nil, tilesB, List.nil_append]
  | t :: a, acc, b => by
    rw [List.cons_append, tilesB, tilesB, tilesB_app kn a (acc ++ [t]) b, List.append_assoc, List.append_assoc]
    rfl
theorem tilesB_take (kn : List TL → TL) {ts : List TL} {k : Nat} (hk : k < ts.length) : tilesB kn [] (ts.take (k + 1)) = tilesB kn [] (ts.take k) ++ stepK ts[k] (kn (ts.take k)) := by
  rw [List.take_succ_eq_append_getElem hk, tilesB_app, List.nil_append]
  congr 1
  rw [tilesB, tilesB, List.append_nil]
  rfl
theorem tileB_len (t : TL) : (tileB t).length ≤ 320 := by
  have h1 := runG_len t.l
  have h2 := t.h
  unfold tileB
  rw [bytesG_len]
  omega
theorem stepK_len (t u : TL) : (stepK t u).length ≤ 320 := by
  unfold stepK
  split
  · simp
  · exact tileB_len t
theorem tilesB_len (kn : List TL → TL) : ∀ (ts acc : List TL), (tilesB kn acc ts).length ≤ ts.length * 320
  | [], _ => by rw [tilesB]; simp
  | t :: ts, acc => by
    have h1 := tilesB_len kn ts (acc ++ [t])
    have h2 := stepK_len t (kn acc)
    unfold stepK at h2
    rw [tilesB, List.length_append, List.length_cons]
    omega
theorem tilesB_nil (kn : List TL → TL) (acc : List TL) : tilesB kn acc [] = [] := by rw [tilesB]
theorem ap_u8 (out b : List Int) : out.flatMap u8V ++ b.flatMap u8V = (out ++ b).flatMap u8V := by rw [List.flatMap_append]
set_option maxRecDepth 4000 in
set_option maxHeartbeats 1000000 in
theorem laid1_a (a b : Int) (old : List TL) (k : Nat) (hk : k ≤ old.length) (hl : old.length ≤ 5000) (out : List Int) (hout : out.length ≤ 100000) (t : TL) : DFun Try.prog 56 [.arr 0, .val (.int .i64 (k : Int)), tD t, .loc 1 0] [.arr 5 1 (out).length ((out).flatMap u8V), .mix 78 [.fn (.func 57) [] [.loc 2 0]], .mix 80 [.loc 3 0], .mix 41 [.val (.int .i64 a), .val (.int .i64 b), .slf 256 old.length (old.flatMap tc)]] (.arr 4) [.gone, .mix 78 [.fn (.func 57) [] [.loc 2 0]], .mix 80 [.loc 3 0], .mix 41 [.val (.int .i64 a), .val (.int .i64 b), .slf 256 old.length (old.flatMap tc)], .arr 5 1 ((out ++ stepK t (aheadK (old.take k)))).length (((out ++ stepK t (aheadK (old.take k)))).flatMap u8V)] := by
  have htl := tileB_len t
  refine dcalls_go (N := 20) 4 (by kernel_rfl) Try.func56 rfl rfl rfl (by simp only [fr0, Nat.zero_add, Nat.reduceAdd]; exact rfl) rfl fun s0 hs0 => ?_
  refine dwp_lena (i := 0) rfl fun hl0 hL0 => ?_
  refine zaf ?_
  refine zah 1 (by simp only [holes, List.cons_append, List.nil_append]; exact rfl) ?_
  refine zad ?_
  refine walk_w rfl rfl rfl (op_boxa 4 rfl (ev1 rfl) rfl) (by simp only [upd, za, zaa]; exact rfl) ?_
  refine zab rfl rfl rfl (zac (.inr rfl) (ev1 rfl)) ?_
  refine zae ?_
  refine zaf ?_
  refine zaf ?_
  refine dwp_draw [([4], []), ([1], []), ([], []), ([2, 3], [2, 3]), ([], [])] mixed (by kernel_rfl) ?_
  refine zag rfl rfl (op_ldw rfl tb29 (ev1 rfl) rfl (tc_len _)) ?_
  refine zag rfl rfl (op_ldm rfl tb78 (ev1 rfl) rfl rfl) ?_
  refine zag rfl rfl (zac (.inl rfl) (ev1 rfl)) ?_
  refine lex_w rfl rfl (zaj [2, 3] [] [] rfl (ev1 rfl) (ec (ev1 rfl) en) rfl rfl (ahead_d a b old k hk hl) rfl rfl rfl rfl rfl rfl) rfl (by simp only [upd, za, zaa]; exact rfl) ?_
  refine zag rfl rfl (op_eqr eq29 rfl gd29 tb29 (ev1 rfl) (ev1 rfl)) ?_
  refine lex_nil ?_
  refine dwp_cond rfl (fun c1 => ?_) (fun c1 => ?_)
  · have c2 : t = (aheadK (old.take k)) := by simpa using c1
    refine zaf ?_
    refine zah 2 (by simp only [holes, List.cons_append, List.nil_append]; exact rfl) ?_
    refine zad ?_
    refine zab rfl rfl rfl (zac (.inl rfl) (ev1 rfl)) ?_
    refine walk_w rfl rfl rfl (op_bsa (ps := [(0, .const (.int .u8 0))]) 5 rfl sl23 zr5 rfl (vc (ev1 rfl) vn) rfl (by decide) (by decide) rfl) (by simp only [upd, za, zaa]; exact rfl) ?_
    refine walk_w rfl rfl rfl (op_app (j := 6) rfl sl23 zr5 rfl (ev1 rfl) (ev1 rfl) (src_arr rfl) rfl rfl (fun _ => rfl) (fun _ => ⟨by omega, by omega⟩)) (by simp only [upd, za, zaa]; exact rfl) ?_
    refine zab rfl rfl rfl (zac (.inr rfl) (ev1 rfl)) ?_
    refine zae ?_
    refine dwp_ret ?_
    refine kend [0, 1, 2, 3, 6] (rs1 rfl (rv_t rfl)) rfl rfl ?_ ⟨rfl, rfl, rfl, rfl, arr_eq (by unfold stepK; rw [if_pos c2, List.length_append]; rfl) (by unfold stepK; rw [if_pos c2, ← ap_u8]; rfl), trivial⟩
    rfl
  · have c2 : t ≠ (aheadK (old.take k)) := by simpa using c1
    refine dwp_skip ?_
    refine zaf ?_
    refine zah 1 (by simp only [holes, List.cons_append, List.nil_append]; exact rfl) ?_
    refine zad ?_
    refine zab rfl rfl rfl (zac (.inl rfl) (ev1 rfl)) ?_
    refine zab rfl rfl rfl (op_ldw rfl tb29 (ev1 rfl) rfl (tc_len _)) ?_
    refine zab rfl rfl rfl (zaj [] [] [] rfl (ev1 rfl) (ec (ev1 rfl) en) rfl rfl (rtile_d t) rfl rfl rfl rfl rfl rfl) ?_
    refine walk_w rfl rfl rfl (op_app (j := 5) rfl sl23 zr5 rfl (ev1 rfl) (ev1 rfl) src_slf rfl rfl (fun _ => flat_oc (fun _ => rfl) _) (fun _ => ⟨by omega, by omega⟩)) (by simp only [upd, za, zaa]; exact rfl) ?_
    refine zab rfl rfl rfl (zac (.inr rfl) (ev1 rfl)) ?_
    refine zae ?_
    refine dwp_ret ?_
    refine kend [0, 1, 2, 3, 5] (rs1 rfl (rv_t rfl)) rfl rfl ?_ ⟨rfl, rfl, rfl, rfl, arr_eq (by unfold stepK; rw [if_neg c2, List.length_append]) (by unfold stepK; rw [if_neg c2, ← ap_u8]), trivial⟩
    rfl
set_option maxRecDepth 4000 in
set_option maxHeartbeats 1000000 in
theorem gath_a (a b : Int) (old : List TL) (hl : old.length ≤ 100)  : DFun Try.prog 55 [.slf 256 old.length (old.flatMap tc), .arr 0, .fn (.func 56) [] [.loc 1 0]] [.arr 5 1 (([a, b] : List Int)).length ((([a, b] : List Int)).flatMap u8V), .mix 78 [.fn (.func 57) [] [.loc 2 0]], .mix 80 [.loc 3 0], .mix 41 [.val (.int .i64 a), .val (.int .i64 b), .slf 256 old.length (old.flatMap tc)]] (.arr 4) [.gone, .mix 78 [.fn (.func 57) [] [.loc 2 0]], .mix 80 [.loc 3 0], .mix 41 [.val (.int .i64 a), .val (.int .i64 b), .slf 256 old.length (old.flatMap tc)], .arr 5 1 (([a, b] ++ tilesB aheadK [] old)).length ((([a, b] ++ tilesB aheadK [] old)).flatMap u8V)] := by
  refine dcalls_go (N := 23) 4 (by kernel_rfl) Try.func55 rfl rfl rfl (by simp only [fr0, Nat.zero_add, Nat.reduceAdd]; exact rfl) rfl fun s0 hs0 => ?_
  refine dwp_len (t := 0) rfl fun hl0 hL0 => ?_
  refine dwp_lena (i := 0) rfl fun hl1 hL1 => ?_
  refine zaf ?_
  refine zad ?_
  refine zab rfl rfl rfl (zac (.inr rfl) (ev1 rfl)) ?_
  refine zae ?_
  refine zaf ?_
  refine zaf ?_
  refine dwp_mv 1 rfl rfl rfl (by simp only [List.cons_append, List.nil_append, za, zaa]; exact rfl) ?_
  refine zad ?_
  refine zab rfl rfl rfl (zac (.inl rfl) (ev1 rfl)) ?_
  refine zab rfl rfl rfl (op_len rfl sl22 (ev1 rfl)) ?_
  refine zab rfl rfl rfl (zac (.inl rfl) (ev1 rfl)) ?_
  refine zae ?_
  refine dwp_block ?_
  refine dwp_loopS ⟨hs0, rfl⟩ (α := Nat) (fun k => [(11, .val (.int .i64 (k : Int)))]) [(1, _), (2, _), (9, _), (10, _)] (fun k => [(4, .arr 5 1 (([a, b] ++ tilesB aheadK [] (old.take (k)))).length ((([a, b] ++ tilesB aheadK [] (old.take (k)))).flatMap u8V))]) [_, _, _, _, .hole] (fun k => k ≤ old.length) (fun k => old.length - k) 0 [0, 1, 2, 3, 4] (Nat.zero_le _) rfl ⟨rfl, rfl, rfl, rfl, trivial⟩ ⟨rfl, trivial⟩ ⟨rfl, rfl, rfl, rfl, by rw [List.take_zero, tilesB_nil]; rfl, trivial⟩ ?_
  intro k hx
  simp only [upd, za, zaa, List.cons_append, List.nil_append]
  have hk0 := hx
  have hbl := tilesB_len aheadK (old.take k) []
  rw [List.length_take] at hbl
  refine zaf ?_
  refine zad ?_
  refine zab rfl rfl rfl (op_lss rfl (ev1 rfl) (ev1 rfl)) ?_
  refine zae ?_
  refine zaf ?_
  refine dwp_cond rfl (fun c1 => ?_) (fun c1 => ?_)
  · try simp only [decide_eq_true_eq, decide_eq_false_iff_not, beq_iff_eq, bne_iff_ne, beq_eq_false_iff_ne, bne_eq_false_iff_eq, Bool.not_eq_true', Bool.not_eq_false', Bool.and_eq_true, Bool.or_eq_true, Bool.or_eq_false_iff, ne_eq, Decidable.not_not, Int.not_lt, Int.not_le] at c1
    refine dwp_skip ?_
    refine zaf ?_
    refine dwp_block ?_
    refine zaf ?_
    have hk : k < old.length := by omega
    refine zah 1 (by simp only [holes, List.cons_append, List.nil_append]; exact rfl) ?_
    refine zad ?_
    refine zab rfl rfl rfl (zac (.inl rfl) (ev1 rfl)) ?_
    refine zab rfl rfl rfl (op_ixsr (j := k) rfl sl22 (ev1 rfl) (ev1 rfl) tc_len (by decide) (by omega) (by omega)) ?_
    refine zab rfl rfl rfl (op_ldwd rfl tb29 (ev1 rfl) (tc_len _)) ?_
    refine walk_w rfl rfl rfl (op_alloc 5 rfl zr29 rfl) (by simp only [upd, za, zaa]; exact rfl) ?_
    refine zab rfl rfl rfl (zac (.inr rfl) (ev1 rfl)) ?_
    refine walk_s rfl rfl (op_stwa rfl tb29 (ev1 rfl) (ev1 rfl) rfl (tc_len _) (tc_oc _) ((tc_len _).trans (tc_len _).symm)) (by simp only [upd, za, zaa]; exact rfl) ?_
    refine zae ?_
    refine zah 1 (by simp only [holes, List.cons_append, List.nil_append]; exact rfl) ?_
    refine zad ?_
    refine zab rfl rfl rfl (zac (.inl rfl) (ev1 rfl)) ?_
    refine zab rfl rfl rfl (zac (.inl rfl) (ev1 rfl)) ?_
    refine zab rfl rfl rfl (zac (.inl rfl) (ev1 rfl)) ?_
    refine zab rfl rfl rfl (op_ldw rfl tb29 (ev1 rfl) rfl (tc_len _)) ?_
    refine walk_w rfl rfl rfl (zaj [4, 1, 2, 3] [] [6] rfl (ev1 rfl) (ec (ev1 rfl) (ec (ev1 rfl) (ec (ev1 rfl) en))) rfl rfl (laid1_a a b old k (by omega) (by omega) ([a, b] ++ tilesB aheadK [] (old.take (k))) (by simp only [List.length_append, List.length_cons, List.length_nil]; omega) _) rfl rfl rfl rfl rfl rfl) (by simp only [upd, za, zaa]; exact rfl) ?_
    refine zab rfl rfl rfl (zac (.inr rfl) (ev1 rfl)) ?_
    refine zae ?_
    refine zad ?_
    refine zab rfl rfl rfl (op_add' rfl (ev1 rfl) (ev1 rfl) (fun _ => IntWalk.i64_in _ (by omega))) ?_
    refine zab rfl rfl rfl (zac (.inl rfl) (ev1 rfl)) ?_
    refine zae ?_
    refine ⟨k + 1, [0, 1, 2, 3, 6], by omega, by simp only []; omega, rfl, ⟨rfl, rfl, rfl, rfl, rfl, trivial⟩, ⟨rfl, rfl, rfl, rfl, arr_eq (by rw [tilesB_take _ hk]; rfl) (by rw [tilesB_take _ hk]; rfl), trivial⟩⟩
  · try simp only [decide_eq_true_eq, decide_eq_false_iff_not, beq_iff_eq, bne_iff_ne, beq_eq_false_iff_ne, bne_eq_false_iff_eq, Bool.not_eq_true', Bool.not_eq_false', Bool.and_eq_true, Bool.or_eq_true, Bool.or_eq_false_iff, ne_eq, Decidable.not_not, Int.not_lt, Int.not_le] at c1
    refine dwp_exit ?_
    refine zaf ?_
    refine zad ?_
    refine zab rfl rfl rfl (zac (.inl rfl) (ev1 rfl)) ?_
    refine zab rfl rfl rfl (zac (.inr rfl) (ev1 rfl)) ?_
    refine zae ?_
    refine dwp_ret ?_
    have hke : old.take k = old := List.take_of_length_le (by omega)
    refine kend [0, 1, 2, 3, 4] (rs1 rfl (rv_t rfl)) rfl rfl ?_ ⟨rfl, rfl, rfl, rfl, arr_eq (by rw [hke]) (by rw [hke]), trivial⟩
    rfl
set_option maxRecDepth 4000 in
set_option maxHeartbeats 1000000 in
theorem laid1_t (a b : Int) (old : List TL) (k : Nat) (hk : k < old.length) (out : List Int) (hout : out.length ≤ 100000) (t : TL) : DFun Try.prog 56 [.arr 0, .val (.int .i64 (k : Int)), tD t, .loc 1 0] [.arr 5 1 (out).length ((out).flatMap u8V), .mix 78 [.fn (.func 58) [] [.loc 2 0]], .mix 80 [.loc 3 0], .mix 41 [.val (.int .i64 a), .val (.int .i64 b), .slf 256 old.length (old.flatMap tc)]] (.arr 4) [.gone, .mix 78 [.fn (.func 58) [] [.loc 2 0]], .mix 80 [.loc 3 0], .mix 41 [.val (.int .i64 a), .val (.int .i64 b), .slf 256 old.length (old.flatMap tc)], .arr 5 1 ((out ++ stepK t (old[k]))).length (((out ++ stepK t (old[k]))).flatMap u8V)] := by
  have htl := tileB_len t
  refine dcalls_go (N := 20) 4 (by kernel_rfl) Try.func56 rfl rfl rfl (by simp only [fr0, Nat.zero_add, Nat.reduceAdd]; exact rfl) rfl fun s0 hs0 => ?_
  refine dwp_lena (i := 0) rfl fun hl0 hL0 => ?_
  refine zaf ?_
  refine zah 1 (by simp only [holes, List.cons_append, List.nil_append]; exact rfl) ?_
  refine zad ?_
  refine walk_w rfl rfl rfl (op_boxa 4 rfl (ev1 rfl) rfl) (by simp only [upd, za, zaa]; exact rfl) ?_
  refine zab rfl rfl rfl (zac (.inr rfl) (ev1 rfl)) ?_
  refine zae ?_
  refine zaf ?_
  refine zaf ?_
  refine dwp_draw [([4], []), ([1], []), ([], []), ([2, 3], [2, 3]), ([], [])] mixed (by kernel_rfl) ?_
  refine zag rfl rfl (op_ldw rfl tb29 (ev1 rfl) rfl (tc_len _)) ?_
  refine zag rfl rfl (op_ldm rfl tb78 (ev1 rfl) rfl rfl) ?_
  refine zag rfl rfl (zac (.inl rfl) (ev1 rfl)) ?_
  refine lex_w rfl rfl (zaj [2, 3] [] [] rfl (ev1 rfl) (ec (ev1 rfl) en) rfl rfl (there_d a b old k hk) rfl rfl rfl rfl rfl rfl) rfl (by simp only [upd, za, zaa]; exact rfl) ?_
  refine zag rfl rfl (op_eqr eq29 rfl gd29 tb29 (ev1 rfl) (ev1 rfl)) ?_
  refine lex_nil ?_
  refine dwp_cond rfl (fun c1 => ?_) (fun c1 => ?_)
  · have c2 : t = (old[k]) := by simpa using c1
    refine zaf ?_
    refine zah 2 (by simp only [holes, List.cons_append, List.nil_append]; exact rfl) ?_
    refine zad ?_
    refine zab rfl rfl rfl (zac (.inl rfl) (ev1 rfl)) ?_
    refine walk_w rfl rfl rfl (op_bsa (ps := [(0, .const (.int .u8 0))]) 5 rfl sl23 zr5 rfl (vc (ev1 rfl) vn) rfl (by decide) (by decide) rfl) (by simp only [upd, za, zaa]; exact rfl) ?_
    refine walk_w rfl rfl rfl (op_app (j := 6) rfl sl23 zr5 rfl (ev1 rfl) (ev1 rfl) (src_arr rfl) rfl rfl (fun _ => rfl) (fun _ => ⟨by omega, by omega⟩)) (by simp only [upd, za, zaa]; exact rfl) ?_
    refine zab rfl rfl rfl (zac (.inr rfl) (ev1 rfl)) ?_
    refine zae ?_
    refine dwp_ret ?_
    refine kend [0, 1, 2, 3, 6] (rs1 rfl (rv_t rfl)) rfl rfl ?_ ⟨rfl, rfl, rfl, rfl, arr_eq (by unfold stepK; rw [if_pos c2, List.length_append]; rfl) (by unfold stepK; rw [if_pos c2, ← ap_u8]; rfl), trivial⟩
    rfl
  · have c2 : t ≠ (old[k]) := by simpa using c1
    refine dwp_skip ?_
    refine zaf ?_
    refine zah 1 (by simp only [holes, List.cons_append, List.nil_append]; exact rfl) ?_
    refine zad ?_
    refine zab rfl rfl rfl (zac (.inl rfl) (ev1 rfl)) ?_
    refine zab rfl rfl rfl (op_ldw rfl tb29 (ev1 rfl) rfl (tc_len _)) ?_
    refine zab rfl rfl rfl (zaj [] [] [] rfl (ev1 rfl) (ec (ev1 rfl) en) rfl rfl (rtile_d t) rfl rfl rfl rfl rfl rfl) ?_
    refine walk_w rfl rfl rfl (op_app (j := 5) rfl sl23 zr5 rfl (ev1 rfl) (ev1 rfl) src_slf rfl rfl (fun _ => flat_oc (fun _ => rfl) _) (fun _ => ⟨by omega, by omega⟩)) (by simp only [upd, za, zaa]; exact rfl) ?_
    refine zab rfl rfl rfl (zac (.inr rfl) (ev1 rfl)) ?_
    refine zae ?_
    refine dwp_ret ?_
    refine kend [0, 1, 2, 3, 5] (rs1 rfl (rv_t rfl)) rfl rfl ?_ ⟨rfl, rfl, rfl, rfl, arr_eq (by unfold stepK; rw [if_neg c2, List.length_append]) (by unfold stepK; rw [if_neg c2, ← ap_u8]), trivial⟩
    rfl
set_option maxRecDepth 4000 in
set_option maxHeartbeats 1000000 in
theorem gath_t (a b : Int) (old : List TL) (us : List TL) (hus : us.length ≤ old.length) (hl : old.length ≤ 100)  : DFun Try.prog 55 [.slf 256 us.length (us.flatMap tc), .arr 0, .fn (.func 56) [] [.loc 1 0]] [.arr 5 1 (([a, b] : List Int)).length ((([a, b] : List Int)).flatMap u8V), .mix 78 [.fn (.func 58) [] [.loc 2 0]], .mix 80 [.loc 3 0], .mix 41 [.val (.int .i64 a), .val (.int .i64 b), .slf 256 old.length (old.flatMap tc)]] (.arr 4) [.gone, .mix 78 [.fn (.func 58) [] [.loc 2 0]], .mix 80 [.loc 3 0], .mix 41 [.val (.int .i64 a), .val (.int .i64 b), .slf 256 old.length (old.flatMap tc)], .arr 5 1 (([a, b] ++ tilesB (thereK old) [] us)).length ((([a, b] ++ tilesB (thereK old) [] us)).flatMap u8V)] := by
  refine dcalls_go (N := 23) 4 (by kernel_rfl) Try.func55 rfl rfl rfl (by simp only [fr0, Nat.zero_add, Nat.reduceAdd]; exact rfl) rfl fun s0 hs0 => ?_
  refine dwp_len (t := 0) rfl fun hl0 hL0 => ?_
  refine dwp_lena (i := 0) rfl fun hl1 hL1 => ?_
  refine zaf ?_
  refine zad ?_
  refine zab rfl rfl rfl (zac (.inr rfl) (ev1 rfl)) ?_
  refine zae ?_
  refine zaf ?_
  refine zaf ?_
  refine dwp_mv 1 rfl rfl rfl (by simp only [List.cons_append, List.nil_append, za, zaa]; exact rfl) ?_
  refine zad ?_
  refine zab rfl rfl rfl (zac (.inl rfl) (ev1 rfl)) ?_
  refine zab rfl rfl rfl (op_len rfl sl22 (ev1 rfl)) ?_
  refine zab rfl rfl rfl (zac (.inl rfl) (ev1 rfl)) ?_
  refine zae ?_
  refine dwp_block ?_
  refine dwp_loopS ⟨hs0, rfl⟩ (α := Nat) (fun k => [(11, .val (.int .i64 (k : Int)))]) [(1, _), (2, _), (9, _), (10, _)] (fun k => [(4, .arr 5 1 (([a, b] ++ tilesB (thereK old) [] (us.take (k)))).length ((([a, b] ++ tilesB (thereK old) [] (us.take (k)))).flatMap u8V))]) [_, _, _, _, .hole] (fun k => k ≤ us.length) (fun k => us.length - k) 0 [0, 1, 2, 3, 4] (Nat.zero_le _) rfl ⟨rfl, rfl, rfl, rfl, trivial⟩ ⟨rfl, trivial⟩ ⟨rfl, rfl, rfl, rfl, by rw [List.take_zero, tilesB_nil]; rfl, trivial⟩ ?_
  intro k hx
  simp only [upd, za, zaa, List.cons_append, List.nil_append]
  have hk0 := hx
  have hbl := tilesB_len (thereK old) (us.take k) []
  rw [List.length_take] at hbl
  refine zaf ?_
  refine zad ?_
  refine zab rfl rfl rfl (op_lss rfl (ev1 rfl) (ev1 rfl)) ?_
  refine zae ?_
  refine zaf ?_
  refine dwp_cond rfl (fun c1 => ?_) (fun c1 => ?_)
  · try simp only [decide_eq_true_eq, decide_eq_false_iff_not, beq_iff_eq, bne_iff_ne, beq_eq_false_iff_ne, bne_eq_false_iff_eq, Bool.not_eq_true', Bool.not_eq_false', Bool.and_eq_true, Bool.or_eq_true, Bool.or_eq_false_iff, ne_eq, Decidable.not_not, Int.not_lt, Int.not_le] at c1
    refine dwp_skip ?_
    refine zaf ?_
    refine dwp_block ?_
    refine zaf ?_
    have hk : k < us.length := by omega
    refine zah 1 (by simp only [holes, List.cons_append, List.nil_append]; exact rfl) ?_
    refine zad ?_
    refine zab rfl rfl rfl (zac (.inl rfl) (ev1 rfl)) ?_
    refine zab rfl rfl rfl (op_ixsr (j := k) rfl sl22 (ev1 rfl) (ev1 rfl) tc_len (by decide) (by omega) (by omega)) ?_
    refine zab rfl rfl rfl (op_ldwd rfl tb29 (ev1 rfl) (tc_len _)) ?_
    refine walk_w rfl rfl rfl (op_alloc 5 rfl zr29 rfl) (by simp only [upd, za, zaa]; exact rfl) ?_
    refine zab rfl rfl rfl (zac (.inr rfl) (ev1 rfl)) ?_
    refine walk_s rfl rfl (op_stwa rfl tb29 (ev1 rfl) (ev1 rfl) rfl (tc_len _) (tc_oc _) ((tc_len _).trans (tc_len _).symm)) (by simp only [upd, za, zaa]; exact rfl) ?_
    refine zae ?_
    refine zah 1 (by simp only [holes, List.cons_append, List.nil_append]; exact rfl) ?_
    refine zad ?_
    refine zab rfl rfl rfl (zac (.inl rfl) (ev1 rfl)) ?_
    refine zab rfl rfl rfl (zac (.inl rfl) (ev1 rfl)) ?_
    refine zab rfl rfl rfl (zac (.inl rfl) (ev1 rfl)) ?_
    refine zab rfl rfl rfl (op_ldw rfl tb29 (ev1 rfl) rfl (tc_len _)) ?_
    refine walk_w rfl rfl rfl (zaj [4, 1, 2, 3] [] [6] rfl (ev1 rfl) (ec (ev1 rfl) (ec (ev1 rfl) (ec (ev1 rfl) en))) rfl rfl (laid1_t a b old k (by omega) ([a, b] ++ tilesB (thereK old) [] (us.take (k))) (by simp only [List.length_append, List.length_cons, List.length_nil]; omega) _) rfl rfl rfl rfl rfl rfl) (by simp only [upd, za, zaa]; exact rfl) ?_
    refine zab rfl rfl rfl (zac (.inr rfl) (ev1 rfl)) ?_
    refine zae ?_
    refine zad ?_
    refine zab rfl rfl rfl (op_add' rfl (ev1 rfl) (ev1 rfl) (fun _ => IntWalk.i64_in _ (by omega))) ?_
    refine zab rfl rfl rfl (zac (.inl rfl) (ev1 rfl)) ?_
    refine zae ?_
    have hth : thereK old (us.take k) = old[k] := by
      rw [thereK_at (by rw [List.length_take]; omega)]
      congr 1
      rw [List.length_take]; omega
    refine ⟨k + 1, [0, 1, 2, 3, 6], by omega, by simp only []; omega, rfl, ⟨rfl, rfl, rfl, rfl, rfl, trivial⟩, ⟨rfl, rfl, rfl, rfl, arr_eq (by rw [tilesB_take _ hk, hth]; rfl) (by rw [tilesB_take _ hk, hth]; rfl), trivial⟩⟩
  · try simp only [decide_eq_true_eq, decide_eq_false_iff_not, beq_iff_eq, bne_iff_ne, beq_eq_false_iff_ne, bne_eq_false_iff_eq, Bool.not_eq_true', Bool.not_eq_false', Bool.and_eq_true, Bool.or_eq_true, Bool.or_eq_false_iff, ne_eq, Decidable.not_not, Int.not_lt, Int.not_le] at c1
    refine dwp_exit ?_
    refine zaf ?_
    refine zad ?_
    refine zab rfl rfl rfl (zac (.inl rfl) (ev1 rfl)) ?_
    refine zab rfl rfl rfl (zac (.inr rfl) (ev1 rfl)) ?_
    refine zae ?_
    refine dwp_ret ?_
    have hke : us.take k = us := List.take_of_length_le (by omega)
    refine kend [0, 1, 2, 3, 4] (rs1 rfl (rv_t rfl)) rfl rfl ?_ ⟨rfl, rfl, rfl, rfl, arr_eq (by rw [hke]) (by rw [hke]), trivial⟩
    rfl
end Go.Proofs.Ytcbfnbfhlofkiaa
namespace Go.Proofs.Ytcbfnbfhlofkiaa
set_option maxRecDepth 4000
set_option linter.unusedVariables false
set_option linter.unusedSimpArgs false
open Go.RowKit
theorem sl88 : slE Try.prog 88 = some (27, 4, 4) := by kernel_rfl
theorem runG_head : ∀ (c : C4) (l : List C4), ∃ n r, runG (c :: l) = (n, c) :: r := fun c l => by
  rw [runG]
  split
  · exact ⟨_, _, rfl⟩
  · split
    · rename_i e; exact ⟨_, _, by rw [e]⟩
    · exact ⟨_, _, rfl⟩
theorem runG_two (c d : C4) (l : List C4) : (runG (c :: d :: l)).length = (if c = d then 0 else 1) + (runG (d :: l)).length := by
  obtain ⟨n, r, h⟩ := runG_head d l
  rw [runG, h]
  simp only
  by_cases e : c = d
  · rw [if_pos e, if_pos e]; simp
  · rw [if_neg e, if_neg e]; simp; omega
abbrev begF (t : TL) : Nat → C4 → Bool := fun i x => decide (i = 0) || decide (x ≠ t.get (i - 1))
theorem cnt_run (t : TL) : ∀ (l : List C4) (c : C4) (k : Nat), t.l.drop k = c :: l → cnt (begF t) l (k + 1) + 1 = ((runG (c :: l)).length : Int)
  | [], c, k, _ => by rw [cnt]; rfl
  | d :: l, c, k, h => by
    have h1 : t.l.drop (k + 1) = d :: l := by rw [← List.drop_drop, h]; rfl
    have h2 : t.get k = c := by
      unfold TL.get
      have : t.l[k]? = some c := by rw [← List.head?_drop, h]; rfl
      rw [List.getD_eq_getElem?_getD, this]; rfl
    have ih := cnt_run t l d (k + 1) h1
    rw [cnt, runG_two, Int.natCast_add, ← ih]
    have e : begF t (k + 1) d = decide (d ≠ c) := by
      show (decide (k + 1 = 0) || decide (d ≠ t.get (k + 1 - 1))) = _
      rw [Nat.add_sub_cancel, h2]
      simp
    rw [e]
    by_cases g : c = d
    · subst g; simp
    · rw [if_neg g, if_pos (by simpa using fun e => g e.symm)]
      simp
      omega
theorem cnt_runG (t : TL) : cnt (begF t) t.l 0 = ((runG t.l).length : Int) := by
  have h := t.h
  cases e : t.l with
  | nil => rw [e] at h; cases h
  | cons c l =>
    have := cnt_run t l c 0 (by rw [e]; rfl)
    rw [cnt, if_pos (by rfl), ← this]
    omega
def sizeN (ts : List TL) : Nat := (ts.flatMap tileB).length
theorem sizeN_take {ts : List TL} {k : Nat} (hk : k < ts.length) : sizeN (ts.take (k + 1)) = sizeN (ts.take k) + (runG ts[k].l).length * 5 := by
  unfold sizeN
  rw [List.take_succ_eq_append_getElem hk, List.flatMap_append, List.length_append]
  congr 1
  rw [List.flatMap_cons]
  show (tileB ts[k] ++ []).length = _
  rw [List.append_nil]
  exact bytesG_len _
theorem sizeN_le (ts : List TL) : sizeN ts ≤ ts.length * 320 := by
  unfold sizeN
  induction ts with
  | nil => exact Nat.le_refl _
  | cons t ts ih =>
    have := tileB_len t
    rw [List.flatMap_cons, List.length_append, List.length_cons]
    omega
set_option maxRecDepth 4000 in
set_option maxHeartbeats 1000000 in
theorem runsf_d (i : Nat) (hi : i < 64) (x : C4) (t : TL) : DFun Try.prog 50 [.val (.int .i64 (i : Int)), .val (.agg (c4 x).toArray), .dpf (tc t)] [] (.val (.bool (begF t i x))) [] := by
  refine dcalls_go (N := 16) 0 (by kernel_rfl) Try.func50 rfl rfl rfl (by simp only [fr0, Nat.zero_add, Nat.reduceAdd]; exact rfl) rfl fun s0 hs0 => ?_
  refine zaf ?_
  refine zah 1 (by simp only [holes, List.cons_append, List.nil_append]; exact rfl) ?_
  refine zad ?_
  refine walk_w rfl rfl rfl (op_boxa 0 rfl (ev1 rfl) rfl) (by simp only [upd, za, zaa]; exact rfl) ?_
  refine zab rfl rfl rfl (zac (.inr rfl) (ev1 rfl)) ?_
  refine zae ?_
  refine zaf ?_
  refine dwp_draw [([], []), ([], []), ([], []), ([0], []), ([], []), ([], []), ([], []), ([], []), ([], []), ([], []), ([], [])] mixed (by kernel_rfl) ?_
  refine zag rfl rfl (zac (.inl rfl) (ev1 rfl)) ?_
  refine zag rfl rfl (op_eql rfl (ev1 rfl) (ev1 rfl)) ?_
  refine zag rfl rfl (zac (.inl rfl) (ev1 rfl)) ?_
  refine lex_gr (gd_f rfl rfl rfl) rfl rfl (op_ldw rfl tb27 (ev1 rfl) rfl rfl) ?_
  refine lex_gr (gd_f rfl rfl rfl) rfl rfl (zac (.inl rfl) (ev1 rfl)) ?_
  refine lex_gr (gd_f rfl rfl rfl) rfl rfl (op_sub' rfl (ev2 rfl) (ev1 rfl) (fun hp => IntWalk.i64_in _ (by first | omega | (simp at hp; omega)))) ?_
  refine lex_gr (gd_f rfl rfl rfl) rfl rfl (op_ixdr (j := i - 1) (zC4) rfl ar29 (ev1 rfl) (ev2 rfl) (fun hp => by simp at hp; omega) (fun hp => by first | omega | (simp at hp; omega)) ((TL.h _)) (fun _ => rfl)) ?_
  refine lex_gr (gd_f rfl rfl rfl) rfl rfl (op_ldwd rfl tb27 (ev2 rfl) rfl) ?_
  refine lex_gr (gd_f rfl rfl rfl) rfl rfl (op_ner eq27 rfl gd27 tb27 (ev2 rfl) (ev2 rfl)) ?_
  refine zag rfl rfl (op_or rfl (ev1 rfl) (ev3 rfl id)) ?_
  refine zag rfl rfl (zac (.inr rfl) (ev1 rfl)) ?_
  refine lex_nil ?_
  refine dwp_ret ?_
  refine kend0 (rs1 rfl (rv_t rfl)) rfl ?_
  unfold begF
  rw [D.val.injEq, Value.bool.injEq]
  have e : ((i : Int) == 0) = decide (i = 0) := by rw [Bool.eq_iff_iff]; simp
  rw [e]
  congr 1
  simp [TL.get]
set_option maxRecDepth 4000 in
set_option maxHeartbeats 1000000 in
theorem manyR (t : TL) (l : List C4) (h64 : l.length ≤ 64) : DFun Try.prog 49 [.slf 4 l.length (l.flatMap c4), .fn (.func 50) [] [.dpf (tc t)]] [] (.val (.int .i64 (cnt (begF t) l 0))) [] := by
  refine dcalls_go (N := 23) 0 (by kernel_rfl) Try.func49 rfl rfl rfl (by simp only [fr0, Nat.zero_add, Nat.reduceAdd]; exact rfl) rfl fun s0 hs0 => ?_
  refine dwp_len (t := 0) rfl fun hl0 hL0 => ?_
  refine zaf ?_
  refine zad ?_
  refine zab rfl rfl rfl (zac (.inr rfl) (ev1 rfl)) ?_
  refine zae ?_
  refine zaf ?_
  refine zad ?_
  refine zab rfl rfl rfl (zac (.inr rfl) (ev1 rfl)) ?_
  refine zae ?_
  refine zaf ?_
  refine zaf ?_
  refine zad ?_
  refine zab rfl rfl rfl (zac (.inl rfl) (ev1 rfl)) ?_
  refine zab rfl rfl rfl (op_len rfl sl88 (ev1 rfl)) ?_
  refine zab rfl rfl rfl (zac (.inl rfl) (ev1 rfl)) ?_
  refine zae ?_
  refine dwp_block ?_
  refine dwp_loopS ⟨hs0, rfl⟩ (α := Nat × Int) (fun x => [(5, .val (.int .i64 x.2)), (10, .val (.int .i64 (x.1 : Int)))]) [(1, _), (8, _), (9, _)] (fun x => []) [] (fun x => x.1 ≤ l.length ∧ (0 ≤ x.2 ∧ x.2 ≤ x.1) ∧ cnt (begF t) l 0 = x.2 + cnt (begF t) (l.drop x.1) x.1) (fun x => l.length - x.1) (0, 0) [] (by simp) rfl ⟨rfl, rfl, rfl, trivial⟩ ⟨rfl, rfl, trivial⟩ trivial ?_
  intro x hx
  simp only [upd, za, zaa, List.cons_append, List.nil_append]
  obtain ⟨k, n⟩ := x
  obtain ⟨hk, hn, he⟩ := hx
  dsimp only at hk hn he ⊢
  refine zaf ?_
  refine zad ?_
  refine zab rfl rfl rfl (op_lss rfl (ev1 rfl) (ev1 rfl)) ?_
  refine zae ?_
  refine zaf ?_
  refine dwp_cond rfl (fun c1 => ?_) (fun c1 => ?_)
  · try simp only [decide_eq_true_eq, decide_eq_false_iff_not, beq_iff_eq, bne_iff_ne, beq_eq_false_iff_ne, bne_eq_false_iff_eq, Bool.not_eq_true', Bool.not_eq_false', Bool.and_eq_true, Bool.or_eq_true, Bool.or_eq_false_iff, ne_eq, Decidable.not_not, Int.not_lt, Int.not_le] at c1
    refine dwp_skip ?_
    refine zaf ?_
    refine dwp_block ?_
    refine zaf ?_
    refine zah 1 (by simp only [holes, List.cons_append, List.nil_append]; exact rfl) ?_
    refine zad ?_
    refine zab rfl rfl rfl (zac (.inl rfl) (ev1 rfl)) ?_
    refine zab rfl rfl rfl (op_ixsr (j := k) rfl sl88 (ev1 rfl) (ev1 rfl) (fun _ => rfl) (by decide) (by omega) (by omega)) ?_
    refine zab rfl rfl rfl (op_ldwd rfl tb27 (ev1 rfl) rfl) ?_
    refine walk_w rfl rfl rfl (op_alloc 0 rfl zr27 rfl) (by simp only [upd, za, zaa]; exact rfl) ?_
    refine zab rfl rfl rfl (zac (.inr rfl) (ev1 rfl)) ?_
    refine walk_s rfl rfl (op_stwa rfl tb27 (ev1 rfl) (ev1 rfl) rfl rfl rfl rfl) (by simp only [upd, za, zaa]; exact rfl) ?_
    refine zae ?_
    refine zaf ?_
    refine zad ?_
    refine zab rfl rfl rfl (zac (.inl rfl) (ev1 rfl)) ?_
    refine zab rfl rfl rfl (zac (.inl rfl) (ev1 rfl)) ?_
    refine zab rfl rfl rfl (op_ldw rfl tb27 (ev1 rfl) rfl rfl) ?_
    refine zab rfl rfl rfl (zaj [] [] [] rfl (ev1 rfl) (ec (ev1 rfl) (ec (ev1 rfl) en)) rfl rfl (runsf_d k (by omega) _ t) rfl rfl rfl rfl rfl rfl) ?_
    refine zae ?_
    refine dwp_cond rfl (fun c2 => ?_) (fun c2 => ?_)
    · refine zad ?_
      refine zab rfl rfl rfl (zac (.inl rfl) (ev1 rfl)) ?_
      refine zab rfl rfl rfl (op_add' rfl (ev1 rfl) (ev1 rfl) (fun _ => IntWalk.i64_in _ (by omega))) ?_
      refine zab rfl rfl rfl (zac (.inr rfl) (ev1 rfl)) ?_
      refine zae ?_
      refine zad ?_
      refine zab rfl rfl rfl (op_add' rfl (ev1 rfl) (ev1 rfl) (fun _ => IntWalk.i64_in _ (by omega))) ?_
      refine zab rfl rfl rfl (zac (.inl rfl) (ev1 rfl)) ?_
      refine zae ?_
      refine ⟨(k + 1, n + 1), [], ⟨by dsimp only; omega, by dsimp only; omega, by dsimp only; rw [he, cnt_drop (by omega), if_pos (by assumption)]; omega⟩, by simp only []; omega, rfl, ⟨rfl, rfl, rfl, rfl, rfl, trivial⟩, trivial⟩
    · refine dwp_skip ?_
      refine zad ?_
      refine zab rfl rfl rfl (op_add' rfl (ev1 rfl) (ev1 rfl) (fun _ => IntWalk.i64_in _ (by omega))) ?_
      refine zab rfl rfl rfl (zac (.inl rfl) (ev1 rfl)) ?_
      refine zae ?_
      refine ⟨(k + 1, n), [], ⟨by dsimp only; omega, by dsimp only; omega, by dsimp only; rw [he, cnt_drop (by omega), if_neg (by simp_all)]; omega⟩, by simp only []; omega, rfl, ⟨rfl, rfl, rfl, rfl, rfl, trivial⟩, trivial⟩
  · try simp only [decide_eq_true_eq, decide_eq_false_iff_not, beq_iff_eq, bne_iff_ne, beq_eq_false_iff_ne, bne_eq_false_iff_eq, Bool.not_eq_true', Bool.not_eq_false', Bool.and_eq_true, Bool.or_eq_true, Bool.or_eq_false_iff, ne_eq, Decidable.not_not, Int.not_lt, Int.not_le] at c1
    refine dwp_exit ?_
    refine zaf ?_
    refine zad ?_
    refine zab rfl rfl rfl (zac (.inl rfl) (ev1 rfl)) ?_
    refine zab rfl rfl rfl (zac (.inr rfl) (ev1 rfl)) ?_
    refine zae ?_
    refine dwp_ret ?_
    refine kend0 (rs1 rfl (rv_t rfl)) rfl ?_
    rw [he, cnt_end (by omega)]; simp
set_option maxRecDepth 4000 in
set_option maxHeartbeats 1000000 in
theorem tileruns_d (t : TL) : DFun Try.prog 29 [tD t] [] (.val (.int .i64 ((runG t.l).length : Nat))) [] := by
  refine dcalls_go (N := 6) 0 (by kernel_rfl) Try.func29 rfl rfl rfl (by simp only [fr0, Nat.zero_add, Nat.reduceAdd]; exact rfl) rfl fun s0 hs0 => ?_
  refine zaf ?_
  refine zah 1 (by simp only [holes, List.cons_append, List.nil_append]; exact rfl) ?_
  refine zad ?_
  refine walk_w rfl rfl rfl (op_boxa 0 rfl (ev1 rfl) rfl) (by simp only [upd, za, zaa]; exact rfl) ?_
  refine zab rfl rfl rfl (zac (.inr rfl) (ev1 rfl)) ?_
  refine zae ?_
  refine zaf ?_
  refine dwp_view ⟨hs0, rfl⟩ [] [0] [(1, _), (2, _)] [] rfl ⟨rfl, rfl, trivial⟩ trivial ?_
  refine zad ?_
  refine zab rfl rfl rfl (op_slad (p := 0) (q := 64) rfl ar29 (ev1 rfl) bd_none bd_none (fun _ => rfl) (fun _ => by omega) (fun _ => by omega) ((TL.h _)) (by decide) (fun _ => rfl)) ?_
  refine zab rfl rfl rfl (op_mkf rfl en (ec (ev1 rfl) en)) ?_
  refine zab rfl rfl rfl (zaj [] [] [] rfl (ev1 rfl) (ec (ev1 rfl) (ec (ev1 rfl) en)) rfl rfl (manyR t _ (by simp [t.h])) rfl rfl rfl rfl rfl rfl) ?_
  refine zab rfl rfl rfl (zac (.inr rfl) (ev1 rfl)) ?_
  refine zae ?_
  refine dwp_ret ?_
  refine kend0 (rs1 rfl (rv_t rfl)) rfl ?_
  have hl64 : ((t.l.drop 0).take (64 - 0)) = t.l := by rw [List.drop_zero, List.take_of_length_le (by rw [t.h]; omega)]
  rw [hl64, cnt_runG]
set_option maxRecDepth 4000 in
set_option maxHeartbeats 1000000 in
theorem size1_d (s k : Int) (t : TL) (hs : 0 ≤ s ∧ s ≤ 1000000000) : DFun Try.prog 37 [.val (.int .i64 s), .val (.int .i64 k), tD t] [] (.val (.int .i64 (s + ((runG t.l).length : Nat) * 5))) [] := by
  have hrl := runG_len t.l
  have hth := t.h
  refine dcalls_go (N := 12) 0 (by kernel_rfl) Try.func37 rfl rfl rfl (by simp only [fr0, Nat.zero_add, Nat.reduceAdd]; exact rfl) rfl fun s0 hs0 => ?_
  refine zaf ?_
  refine zah 1 (by simp only [holes, List.cons_append, List.nil_append]; exact rfl) ?_
  refine zad ?_
  refine walk_w rfl rfl rfl (op_boxa 0 rfl (ev1 rfl) rfl) (by simp only [upd, za, zaa]; exact rfl) ?_
  refine zab rfl rfl rfl (zac (.inr rfl) (ev1 rfl)) ?_
  refine zae ?_
  refine zaf ?_
  refine zad ?_
  refine zab rfl rfl rfl (zac (.inl rfl) (ev1 rfl)) ?_
  refine zab rfl rfl rfl (op_ldw rfl tb29 (ev1 rfl) rfl (tc_len _)) ?_
  refine zab rfl rfl rfl (zaj [] [] [] rfl (ev1 rfl) (ec (ev1 rfl) en) rfl rfl (tileruns_d t) rfl rfl rfl rfl rfl rfl) ?_
  refine zab rfl rfl rfl (op_mul' rfl (ev1 rfl) (ev1 rfl) (fun _ => IntWalk.i64_in _ (by omega))) ?_
  refine zab rfl rfl rfl (op_add' rfl (ev1 rfl) (ev1 rfl) (fun _ => IntWalk.i64_in _ (by omega))) ?_
  refine zab rfl rfl rfl (zac (.inr rfl) (ev1 rfl)) ?_
  refine zae ?_
  refine dwp_ret ?_
  refine kend0 (rs1 rfl (rv_t rfl)) rfl ?_
  rfl
set_option maxRecDepth 4000 in
set_option maxHeartbeats 1000000 in
theorem gathI (ts : List TL) (hl : ts.length ≤ 5000) : DFun Try.prog 36 [.slf 256 ts.length (ts.flatMap tc), .val (.int .i64 0), .fn (.func 37) [] []] [] (.val (.int .i64 (sizeN ts : Nat))) [] := by
  refine dcalls_go (N := 23) 0 (by kernel_rfl) Try.func36 rfl rfl rfl (by simp only [fr0, Nat.zero_add, Nat.reduceAdd]; exact rfl) rfl fun s0 hs0 => ?_
  refine dwp_len (t := 0) rfl fun hl0 hL0 => ?_
  refine zaf ?_
  refine zad ?_
  refine zab rfl rfl rfl (zac (.inr rfl) (ev1 rfl)) ?_
  refine zae ?_
  refine zaf ?_
  refine zaf ?_
  refine zad ?_
  refine zab rfl rfl rfl (zac (.inl rfl) (ev1 rfl)) ?_
  refine zab rfl rfl rfl (op_len rfl sl22 (ev1 rfl)) ?_
  refine zab rfl rfl rfl (zac (.inl rfl) (ev1 rfl)) ?_
  refine zae ?_
  refine dwp_block ?_
  refine dwp_loopS ⟨hs0, rfl⟩ (α := Nat) (fun k => [(1, .val (.int .i64 (sizeN (ts.take k) : Int))), (11, .val (.int .i64 (k : Int)))]) [(2, _), (9, _), (10, _)] (fun k => []) [] (fun k => k ≤ ts.length) (fun k => ts.length - k) 0 [] (Nat.zero_le _) rfl ⟨rfl, rfl, rfl, trivial⟩ ⟨rfl, rfl, trivial⟩ trivial ?_
  intro k hx
  simp only [upd, za, zaa, List.cons_append, List.nil_append]
  have hk0 := hx
  have hsl := sizeN_le (ts.take k)
  rw [List.length_take] at hsl
  refine zaf ?_
  refine zad ?_
  refine zab rfl rfl rfl (op_lss rfl (ev1 rfl) (ev1 rfl)) ?_
  refine zae ?_
  refine zaf ?_
  refine dwp_cond rfl (fun c1 => ?_) (fun c1 => ?_)
  · try simp only [decide_eq_true_eq, decide_eq_false_iff_not, beq_iff_eq, bne_iff_ne, beq_eq_false_iff_ne, bne_eq_false_iff_eq, Bool.not_eq_true', Bool.not_eq_false', Bool.and_eq_true, Bool.or_eq_true, Bool.or_eq_false_iff, ne_eq, Decidable.not_not, Int.not_lt, Int.not_le] at c1
    refine dwp_skip ?_
    refine zaf ?_
    refine dwp_block ?_
    refine zaf ?_
    have hk : k < ts.length := by omega
    refine zah 1 (by simp only [holes, List.cons_append, List.nil_append]; exact rfl) ?_
    refine zad ?_
    refine zab rfl rfl rfl (zac (.inl rfl) (ev1 rfl)) ?_
    refine zab rfl rfl rfl (op_ixsr (j := k) rfl sl22 (ev1 rfl) (ev1 rfl) tc_len (by decide) (by omega) (by omega)) ?_
    refine zab rfl rfl rfl (op_ldwd rfl tb29 (ev1 rfl) (tc_len _)) ?_
    refine walk_w rfl rfl rfl (op_alloc 0 rfl zr29 rfl) (by simp only [upd, za, zaa]; exact rfl) ?_
    refine zab rfl rfl rfl (zac (.inr rfl) (ev1 rfl)) ?_
    refine walk_s rfl rfl (op_stwa rfl tb29 (ev1 rfl) (ev1 rfl) rfl (tc_len _) (tc_oc _) ((tc_len _).trans (tc_len _).symm)) (by simp only [upd, za, zaa]; exact rfl) ?_
    refine zae ?_
    refine zad ?_
    refine zab rfl rfl rfl (zac (.inl rfl) (ev1 rfl)) ?_
    refine zab rfl rfl rfl (zac (.inl rfl) (ev1 rfl)) ?_
    refine zab rfl rfl rfl (zac (.inl rfl) (ev1 rfl)) ?_
    refine zab rfl rfl rfl (op_ldw rfl tb29 (ev1 rfl) rfl (tc_len _)) ?_
    refine zab rfl rfl rfl (zaj [] [] [] rfl (ev1 rfl) (ec (ev1 rfl) (ec (ev1 rfl) (ec (ev1 rfl) en))) rfl rfl (size1_d (sizeN (ts.take k) : Nat) k _ ⟨by omega, by omega⟩) rfl rfl rfl rfl rfl rfl) ?_
    refine zab rfl rfl rfl (zac (.inr rfl) (ev1 rfl)) ?_
    refine zae ?_
    refine zad ?_
    refine zab rfl rfl rfl (op_add' rfl (ev1 rfl) (ev1 rfl) (fun _ => IntWalk.i64_in _ (by omega))) ?_
    refine zab rfl rfl rfl (zac (.inl rfl) (ev1 rfl)) ?_
    refine zae ?_
    refine ⟨k + 1, [], by omega, by simp only []; omega, rfl, ⟨by rw [sizeN_take hk]; rfl, rfl, rfl, rfl, rfl, trivial⟩, trivial⟩
  · try simp only [decide_eq_true_eq, decide_eq_false_iff_not, beq_iff_eq, bne_iff_ne, beq_eq_false_iff_ne, bne_eq_false_iff_eq, Bool.not_eq_true', Bool.not_eq_false', Bool.and_eq_true, Bool.or_eq_true, Bool.or_eq_false_iff, ne_eq, Decidable.not_not, Int.not_lt, Int.not_le] at c1
    refine dwp_exit ?_
    refine zaf ?_
    refine zad ?_
    refine zab rfl rfl rfl (zac (.inl rfl) (ev1 rfl)) ?_
    refine zab rfl rfl rfl (zac (.inr rfl) (ev1 rfl)) ?_
    refine zae ?_
    refine dwp_ret ?_
    refine kend0 (rs1 rfl (rv_t rfl)) rfl ?_
    rw [List.take_of_length_le (by omega)]
set_option maxRecDepth 4000 in
set_option maxHeartbeats 1000000 in
theorem size_d (ts : List TL) (hl : ts.length ≤ 5000) : DFun Try.prog 16 [.slf 256 ts.length (ts.flatMap tc)] [] (.val (.int .i64 (sizeN ts : Nat))) [] := by
  refine dcalls_go (N := 5) 0 (by kernel_rfl) Try.func16 rfl rfl rfl (by simp only [fr0, Nat.zero_add, Nat.reduceAdd]; exact rfl) rfl fun s0 hs0 => ?_
  refine dwp_len (t := 0) rfl fun hl0 hL0 => ?_
  refine zaf ?_
  refine zad ?_
  refine zab rfl rfl rfl (zac (.inr rfl) (ev1 rfl)) ?_
  refine zae ?_
  refine zaf ?_
  refine zad ?_
  refine zab rfl rfl rfl (zac (.inl rfl) (ev1 rfl)) ?_
  refine zab rfl rfl rfl (zaj [] [] [] rfl (ev1 rfl) (ec (ev1 rfl) (ec (ev1 rfl) (ec (ev1 rfl) en))) rfl rfl (gathI ts hl) rfl rfl rfl rfl rfl rfl) ?_
  refine zab rfl rfl rfl (zac (.inr rfl) (ev1 rfl)) ?_
  refine zae ?_
  refine dwp_ret ?_
  refine kend0 (rs1 rfl (rv_t rfl)) rfl ?_
  rfl
end Go.Proofs.Ytcbfnbfhlofkiaa
namespace Go.Proofs.Ytcbfnbfhlofkiaa
set_option maxRecDepth 4000
set_option linter.unusedVariables false
set_option linter.unusedSimpArgs false
open Go.RowKit
attribute [local irreducible] runG bytesG posG tileB tilesB
set_option maxRecDepth 4000 in
set_option maxHeartbeats 1000000 in
theorem laid_a (a b : Int) (old : List TL) (hm : mayS a b = true) (hl : old.length ≤ 100) : DFun Try.prog 40 [.agg [.val (.int .i64 a), .val (.int .i64 b), .slf 256 old.length (old.flatMap tc)], .fn (.func 57) [] [.loc 0 0]] [.mix 80 [.loc 1 0], .mix 41 [.val (.int .i64 a), .val (.int .i64 b), .slf 256 old.length (old.flatMap tc)]] (.arr 2) [.mix 80 [.loc 1 0], .mix 41 [.val (.int .i64 a), .val (.int .i64 b), .slf 256 old.length (old.flatMap tc)], .arr 5 1 ((a :: b :: tilesB aheadK [] old)).length (((a :: b :: tilesB aheadK [] old)).flatMap u8V)] := by
  have hb := mayS_b hm
  refine dcalls_go (N := 16) 2 (by kernel_rfl) Try.func40 rfl rfl rfl (by simp only [fr0, Nat.zero_add, Nat.reduceAdd]; exact rfl) rfl fun s0 hs0 => ?_
  refine zaf ?_
  refine zah 2 (by simp only [holes, List.cons_append, List.nil_append]; exact rfl) ?_
  refine zad ?_
  refine walk_w rfl rfl rfl (op_boxam 2 rfl (ev1 rfl) rfl) (by simp only [upd, za, zaa]; exact rfl) ?_
  refine walk_w rfl rfl rfl (op_boxm 3 rfl (ev1 rfl) (fun s v h => by cases h <;> rfl) rfl) (by simp only [upd, za, zaa]; exact rfl) ?_
  refine zab rfl rfl rfl (zac (.inr rfl) (ev1 rfl)) ?_
  refine zae ?_
  refine zaf ?_
  refine zah 2 (by simp only [holes, List.cons_append, List.nil_append]; exact rfl) ?_
  refine zad ?_
  refine zab rfl rfl rfl (op_fa rfl fo41_2 (ev1 rfl)) ?_
  refine zab rfl rfl rfl (op_ldm rfl tb22 (ev1 rfl) rfl rfl) ?_
  refine zab rfl rfl rfl (op_fa rfl fo41_0 (ev1 rfl)) ?_
  refine zab rfl rfl rfl (op_ldm rfl tb3 (ev1 rfl) rfl rfl) ?_
  refine zab rfl rfl rfl (op_conv' ty3 kn5 rfl (ev1 rfl) (fun _ => IntWalk.u8_in _ (by omega))) ?_
  refine zab rfl rfl rfl (op_fa rfl fo41_1 (ev1 rfl)) ?_
  refine zab rfl rfl rfl (op_ldm rfl tb3 (ev1 rfl) rfl rfl) ?_
  refine zab rfl rfl rfl (op_conv' ty3 kn5 rfl (ev1 rfl) (fun _ => IntWalk.u8_in _ (by omega))) ?_
  refine walk_w rfl rfl rfl (op_bsa (ps := [(0, .tmp 9), (1, .tmp 12)]) 4 rfl sl23 zr5 rfl (vc (ev1 rfl) (vc (ev1 rfl) vn)) rfl (by decide) (by decide) rfl) (by simp only [upd, za, zaa]; exact rfl) ?_
  refine zab rfl rfl rfl (op_mkf rfl en (ec (ev1 rfl) en)) ?_
  refine walk_w rfl rfl rfl (zaj [4, 3, 0, 1] [] [5] rfl (ev1 rfl) (ec (ev1 rfl) (ec (ev1 rfl) (ec (ev1 rfl) en))) rfl rfl (gath_a a b old hl) rfl rfl rfl rfl rfl rfl) (by simp only [upd, za, zaa]; exact rfl) ?_
  refine zab rfl rfl rfl (zac (.inr rfl) (ev1 rfl)) ?_
  refine zae ?_
  refine dwp_ret ?_
  refine kend [0, 1, 5] (rs1 rfl (rv_t rfl)) rfl rfl ?_ ⟨rfl, rfl, rfl, trivial⟩
  rfl
set_option maxRecDepth 4000 in
set_option maxHeartbeats 1000000 in
theorem laid_t (a b : Int) (old : List TL) (us : List TL) (hus : us.length ≤ old.length) (hm : mayS a b = true) (hl : old.length ≤ 100) : DFun Try.prog 40 [.agg [.val (.int .i64 a), .val (.int .i64 b), .slf 256 us.length (us.flatMap tc)], .fn (.func 58) [] [.loc 0 0]] [.mix 80 [.loc 1 0], .mix 41 [.val (.int .i64 a), .val (.int .i64 b), .slf 256 old.length (old.flatMap tc)]] (.arr 2) [.mix 80 [.loc 1 0], .mix 41 [.val (.int .i64 a), .val (.int .i64 b), .slf 256 old.length (old.flatMap tc)], .arr 5 1 ((a :: b :: tilesB (thereK old) [] us)).length (((a :: b :: tilesB (thereK old) [] us)).flatMap u8V)] := by
  have hb := mayS_b hm
  refine dcalls_go (N := 16) 2 (by kernel_rfl) Try.func40 rfl rfl rfl (by simp only [fr0, Nat.zero_add, Nat.reduceAdd]; exact rfl) rfl fun s0 hs0 => ?_
  refine zaf ?_
  refine zah 2 (by simp only [holes, List.cons_append, List.nil_append]; exact rfl) ?_
  refine zad ?_
  refine walk_w rfl rfl rfl (op_boxam 2 rfl (ev1 rfl) rfl) (by simp only [upd, za, zaa]; exact rfl) ?_
  refine walk_w rfl rfl rfl (op_boxm 3 rfl (ev1 rfl) (fun s v h => by cases h <;> rfl) rfl) (by simp only [upd, za, zaa]; exact rfl) ?_
  refine zab rfl rfl rfl (zac (.inr rfl) (ev1 rfl)) ?_
  refine zae ?_
  refine zaf ?_
  refine zah 2 (by simp only [holes, List.cons_append, List.nil_append]; exact rfl) ?_
  refine zad ?_
  refine zab rfl rfl rfl (op_fa rfl fo41_2 (ev1 rfl)) ?_
  refine zab rfl rfl rfl (op_ldm rfl tb22 (ev1 rfl) rfl rfl) ?_
  refine zab rfl rfl rfl (op_fa rfl fo41_0 (ev1 rfl)) ?_
  refine zab rfl rfl rfl (op_ldm rfl tb3 (ev1 rfl) rfl rfl) ?_
  refine zab rfl rfl rfl (op_conv' ty3 kn5 rfl (ev1 rfl) (fun _ => IntWalk.u8_in _ (by omega))) ?_
  refine zab rfl rfl rfl (op_fa rfl fo41_1 (ev1 rfl)) ?_
  refine zab rfl rfl rfl (op_ldm rfl tb3 (ev1 rfl) rfl rfl) ?_
  refine zab rfl rfl rfl (op_conv' ty3 kn5 rfl (ev1 rfl) (fun _ => IntWalk.u8_in _ (by omega))) ?_
  refine walk_w rfl rfl rfl (op_bsa (ps := [(0, .tmp 9), (1, .tmp 12)]) 4 rfl sl23 zr5 rfl (vc (ev1 rfl) (vc (ev1 rfl) vn)) rfl (by decide) (by decide) rfl) (by simp only [upd, za, zaa]; exact rfl) ?_
  refine zab rfl rfl rfl (op_mkf rfl en (ec (ev1 rfl) en)) ?_
  refine walk_w rfl rfl rfl (zaj [4, 3, 0, 1] [] [5] rfl (ev1 rfl) (ec (ev1 rfl) (ec (ev1 rfl) (ec (ev1 rfl) en))) rfl rfl (gath_t a b old us hus hl) rfl rfl rfl rfl rfl rfl) (by simp only [upd, za, zaa]; exact rfl) ?_
  refine zab rfl rfl rfl (zac (.inr rfl) (ev1 rfl)) ?_
  refine zae ?_
  refine dwp_ret ?_
  refine kend [0, 1, 5] (rs1 rfl (rv_t rfl)) rfl rfl ?_ ⟨rfl, rfl, rfl, trivial⟩
  rfl
set_option maxRecDepth 4000 in
set_option maxHeartbeats 1000000 in
theorem cnv_y (a b : Int) (old : List TL) (hr : rightB a b old = true) (hl : old.length ≤ 100) : DFun Try.prog 19 [.agg [.val (.int .i64 a), .val (.int .i64 b), .slf 256 old.length (old.flatMap tc)]] [] (.tup [.arr 0, .val (.int .i64 0)]) [.arr 5 1 ((canvasB a b old)).length (((canvasB a b old)).flatMap u8V)] := by
  have hm := right_may hr
  refine dcalls_go (N := 13) 0 (by kernel_rfl) Try.func19 rfl rfl rfl (by simp only [fr0, Nat.zero_add, Nat.reduceAdd]; exact rfl) rfl fun s0 hs0 => ?_
  refine zaf ?_
  refine zah 1 (by simp only [holes, List.cons_append, List.nil_append]; exact rfl) ?_
  refine zad ?_
  refine walk_w rfl rfl rfl (op_boxam 0 rfl (ev1 rfl) rfl) (by simp only [upd, za, zaa]; exact rfl) ?_
  refine zab rfl rfl rfl (zac (.inr rfl) (ev1 rfl)) ?_
  refine zab rfl rfl rfl (zac (.inr rfl) (ev1 rfl)) ?_
  refine zae ?_
  refine zaf ?_
  refine zaf ?_
  refine zad ?_
  refine zab rfl rfl rfl (op_ldmw rfl tb41 (ev1 rfl) rfl rfl) ?_
  refine zab rfl rfl rfl (zaj [] [] [] rfl (ev1 rfl) (ec (ev1 rfl) en) rfl rfl (ccheck_d a b old) rfl rfl rfl rfl rfl rfl) ?_
  refine zab rfl rfl rfl (zac (.inr rfl) (ev1 rfl)) ?_
  refine zae ?_
  refine zaf ?_
  refine zad ?_
  refine zab rfl rfl rfl (zac (.inl rfl) (ev1 rfl)) ?_
  refine zab rfl rfl rfl (op_neq rfl (ev1 rfl) (ev1 rfl)) ?_
  refine zae ?_
  refine dwp_if_f rfl (by rw [hr]; rfl) ?_
  refine dwp_skip ?_
  refine zaf ?_
  refine zah 2 (by simp only [holes, List.cons_append, List.nil_append]; exact rfl) ?_
  refine dwp_draw3 [0] 1 [0] [.mix 41 [.val (.int .i64 a), .val (.int .i64 b), .slf 256 old.length (old.flatMap tc)], .mix 80 [.loc 0 0], .hole] [([0], []), ([0, 1], [0, 1]), ([1, 0, 2], [1, 0, 2]), ([], []), ([], [])] rfl mixed (by kernel_rfl) ?_
  refine lex3_i rfl rfl rfl rfl (op_ldmw rfl tb41 (ev1 rfl) rfl rfl) (op_ldmw rfl tb41 (ev1 rfl) rfl rfl) (op_ldmw rfl tb41 (ev1 rfl) rfl rfl) ?_
  refine lex3_j rfl rfl rfl (zaj [0] [] [1] rfl (ev1 rfl) (ec (ev1 rfl) en) rfl rfl (ahead_f a b old) rfl rfl rfl rfl rfl rfl) rfl (by simp only [upd, za, zaa]; exact rfl) (by simp only [List.mem_cons, List.not_mem_nil, or_false]; rintro x rfl; rfl) ?_
  refine lex3_w rfl rfl rfl (zaj [1, 0] [] [2] rfl (ev1 rfl) (ec (ev1 rfl) (ec (ev1 rfl) en)) rfl rfl (laid_a a b old hm hl) rfl rfl rfl rfl rfl rfl) rfl (by simp only [upd, za, zaa]; exact rfl) ?_
  refine lex3_r rfl rfl rfl (zac (.inr rfl) (ev1 rfl)) ?_
  refine lex3_r rfl rfl rfl (zac (.inr rfl) (ev1 rfl)) ?_
  refine lex3_nil ?_
  refine dwp_ret ?_
  refine kend [2] (rs2 rfl (rv_t rfl) (rv_t rfl)) rfl rfl ?_ ⟨rfl, trivial⟩
  rfl
set_option maxRecDepth 4000 in
set_option maxHeartbeats 1000000 in
theorem ptc_y (a b : Int) (old : List TL) (us : List TL) (hr : rightB a b old = true) (hr2 : rightB a b us = true) (hl : old.length ≤ 100) (hus : us.length ≤ old.length) : DFun Try.prog 20 [.agg [.val (.int .i64 a), .val (.int .i64 b), .slf 256 old.length (old.flatMap tc)], .agg [.val (.int .i64 a), .val (.int .i64 b), .slf 256 us.length (us.flatMap tc)]] [] (.tup [.arr 0, .val (.int .i64 0)]) [.arr 5 1 ((patchB a b old us)).length (((patchB a b old us)).flatMap u8V)] := by
  have hm := right_may hr
  refine dcalls_go (N := 30) 0 (by kernel_rfl) Try.func20 rfl rfl rfl (by simp only [fr0, Nat.zero_add, Nat.reduceAdd]; exact rfl) rfl fun s0 hs0 => ?_
  refine zaf ?_
  refine zah 2 (by simp only [holes, List.cons_append, List.nil_append]; exact rfl) ?_
  refine zad ?_
  refine walk_w rfl rfl rfl (op_boxam 0 rfl (ev1 rfl) rfl) (by simp only [upd, za, zaa]; exact rfl) ?_
  refine walk_w rfl rfl rfl (op_boxam 1 rfl (ev1 rfl) rfl) (by simp only [upd, za, zaa]; exact rfl) ?_
  refine zab rfl rfl rfl (zac (.inr rfl) (ev1 rfl)) ?_
  refine zab rfl rfl rfl (zac (.inr rfl) (ev1 rfl)) ?_
  refine zae ?_
  refine zaf ?_
  refine zaf ?_
  refine dwp_draw [([0], []), ([], []), ([1], []), ([], []), ([], []), ([], [])] mixed (by kernel_rfl) ?_
  refine zag rfl rfl (op_ldmw rfl tb41 (ev1 rfl) rfl rfl) ?_
  refine zag rfl rfl (zaj [] [] [] rfl (ev1 rfl) (ec (ev1 rfl) en) rfl rfl (ccheck_d a b old) rfl rfl rfl rfl rfl rfl) ?_
  refine zag rfl rfl (op_ldmw rfl tb41 (ev1 rfl) rfl rfl) ?_
  refine zag rfl rfl (zaj [] [] [] rfl (ev1 rfl) (ec (ev1 rfl) en) rfl rfl (ccheck_d a b us) rfl rfl rfl rfl rfl rfl) ?_
  refine zag rfl rfl (op_max rfl (ev1 rfl) (ev1 rfl)) ?_
  refine zag rfl rfl (zac (.inr rfl) (ev1 rfl)) ?_
  refine lex_nil ?_
  refine zaf ?_
  refine zad ?_
  refine zab rfl rfl rfl (zac (.inl rfl) (ev1 rfl)) ?_
  refine zab rfl rfl rfl (op_neq rfl (ev1 rfl) (ev1 rfl)) ?_
  refine zae ?_
  refine dwp_if_f rfl (by rw [hr, hr2]; rfl) ?_
  refine dwp_skip ?_
  refine zaf ?_
  refine zaf ?_
  refine zad ?_
  refine zab rfl rfl rfl (op_fa rfl fo41_0 (ev1 rfl)) ?_
  refine zab rfl rfl rfl (op_ldm rfl tb3 (ev1 rfl) rfl rfl) ?_
  refine zab rfl rfl rfl (op_fa rfl fo41_0 (ev1 rfl)) ?_
  refine zab rfl rfl rfl (op_ldm rfl tb3 (ev1 rfl) rfl rfl) ?_
  refine zab rfl rfl rfl (op_neq rfl (ev1 rfl) (ev1 rfl)) ?_
  refine zab rfl rfl rfl (zac (.inl rfl) (ev1 rfl)) ?_
  refine zai (gd_f rfl rfl rfl) rfl rfl rfl (op_fa rfl fo41_1 (ev1 rfl)) ?_
  refine zai (gd_f rfl rfl rfl) rfl rfl rfl (op_ldm rfl tb3 (ev2 rfl) rfl rfl) ?_
  refine zai (gd_f rfl rfl rfl) rfl rfl rfl (op_fa rfl fo41_1 (ev1 rfl)) ?_
  refine zai (gd_f rfl rfl rfl) rfl rfl rfl (op_ldm rfl tb3 (ev2 rfl) rfl rfl) ?_
  refine zai (gd_f rfl rfl rfl) rfl rfl rfl (op_neq rfl (ev2 rfl) (ev2 rfl)) ?_
  refine zab rfl rfl rfl (op_or rfl (ev1 rfl) (ev3 rfl id)) ?_
  refine zae ?_
  refine dwp_if_f rfl (by simp) ?_
  refine dwp_skip ?_
  refine zaf ?_
  refine zah 2 (by simp only [holes, List.cons_append, List.nil_append]; exact rfl) ?_
  refine dwp_draw [([1], []), ([0, 2], [0, 2]), ([2, 0, 3], [2, 0, 3]), ([], []), ([], [])] mixed (by kernel_rfl) ?_
  refine zag rfl rfl (op_ldmw rfl tb41 (ev1 rfl) rfl rfl) ?_
  refine lex_w rfl rfl (zaj [0] [] [2] rfl (ev1 rfl) (ec (ev1 rfl) en) rfl rfl (there_f a b old) rfl rfl rfl rfl rfl rfl) rfl (by simp only [upd, za, zaa]; exact rfl) ?_
  refine lex_w rfl rfl (zaj [2, 0] [] [3] rfl (ev1 rfl) (ec (ev1 rfl) (ec (ev1 rfl) en)) rfl rfl (laid_t a b old us hus hm hl) rfl rfl rfl rfl rfl rfl) rfl (by simp only [upd, za, zaa]; exact rfl) ?_
  refine zag rfl rfl (zac (.inr rfl) (ev1 rfl)) ?_
  refine zag rfl rfl (zac (.inr rfl) (ev1 rfl)) ?_
  refine lex_nil ?_
  refine dwp_ret ?_
  refine kend [3] (rs2 rfl (rv_t rfl) (rv_t rfl)) rfl rfl ?_ ⟨rfl, trivial⟩
  rfl
end Go.Proofs.Ytcbfnbfhlofkiaa
namespace Go.Proofs.Ytcbfnbfhlofkiaa
set_option linter.unusedVariables false
set_option linter.unusedSimpArgs false
open Go.RowKit
section
variable {P : Program} {pc : Bool} {o : Oper} {F : Fr} {M : List Blk}
end
section
variable {P : Program} {s0 : St} {n : Cx}
theorem dwp_eqB {co : Code} {F : Fr} {M M' : List Blk} {K : Cont} {k k' : Blk} (i : Nat) (h : k = k') (hi : M[i]? = some k) (hM : M.set i k' = M') (hw : dwp P s0 n co F M' K) : dwp P s0 n co F M K := by
  subst h hM
  obtain ⟨hl, he⟩ := List.getElem?_eq_some_iff.1 hi
  rw [← he, List.set_getElem_self] at hw
  exact hw
end
end Go.Proofs.Ytcbfnbfhlofkiaa
namespace Go.Proofs.Ytcbfnbfhlofkiaa
set_option maxRecDepth 4000
set_option linter.unusedVariables false
set_option linter.unusedSimpArgs false
open Go.RowKit
attribute [local irreducible] padT rdP rdN mayG rdNs runG bytesG posG tileB tilesB canvasB patchB
theorem cnv_f (a b : Int) (old : List TL) (hr : rightB a b old = true) (hl : old.length ≤ 100) : DFun Try.prog 19 [.agg [.val (.int .i64 a), .val (.int .i64 b), .slf 256 old.length (old.flatMap tc)]] [] (.tup [.slf 1 ((canvasB a b old)).length (((canvasB a b old)).flatMap u8V), .val (.int .i64 0)]) [] := freeze (cnv_y a b old hr hl) rfl
theorem ptc_f (a b : Int) (old : List TL) (us : List TL) (hr : rightB a b old = true) (hr2 : rightB a b us = true) (hl : old.length ≤ 100) (hus : us.length ≤ old.length) : DFun Try.prog 20 [.agg [.val (.int .i64 a), .val (.int .i64 b), .slf 256 old.length (old.flatMap tc)], .agg [.val (.int .i64 a), .val (.int .i64 b), .slf 256 us.length (us.flatMap tc)]] [] (.tup [.slf 1 ((patchB a b old us)).length (((patchB a b old us)).flatMap u8V), .val (.int .i64 0)]) [] := freeze (ptc_y a b old us hr hr2 hl hus) rfl
theorem rdc_f (B : List Int) (hB : B.length ≤ 4000000000000000000) (hi : isB B) (n : Nat) (h2 : 0 + 2 ≤ B.length) (hm : mayS (bAt B 0) (bAt B 1) = true) (hn : bAt B 0 * bAt B 1 = (n : Int)) (ts : List TL) (q : Nat) (h0 : rdNs aheadK B n [] 2 = some (ts, q)) : DFun Try.prog 23 [.slf 1 (B).length ((B).flatMap u8V)] [] (.tup [.agg [.val (.int .i64 (bAt B 0)), .val (.int .i64 (bAt B 1)), .slf 256 ts.length (ts.flatMap tc)], .val (.int .i64 (q : Nat)), .val (.int .i64 0)]) [] := freeze (rdc_y B hB hi n h2 hm hn ts q h0) rfl
set_option maxRecDepth 4000 in
set_option maxHeartbeats 1000000 in
theorem equalB (l r : List Int) : DFun Try.prog 11 [.slf 1 l.length (l.flatMap u8V), .slf 1 r.length (r.flatMap u8V)] [] (.val (.bool (decide (l = r)))) [] := by
  refine dcalls_go (N := 26) 0 (by kernel_rfl) Try.func11 rfl rfl rfl (by simp only [fr0, Nat.zero_add, Nat.reduceAdd]; exact rfl) rfl fun s0 hs0 => ?_
  refine dwp_len (t := 0) rfl fun hl0 hL0 => ?_
  refine dwp_len (t := 1) rfl fun hl1 hL1 => ?_
  refine zaf ?_
  refine zad ?_
  refine zab rfl rfl rfl (zac (.inr rfl) (ev1 rfl)) ?_
  refine zae ?_
  refine zaf ?_
  refine zaf ?_
  refine zad ?_
  refine zab rfl rfl rfl (zac (.inl rfl) (ev1 rfl)) ?_
  refine zab rfl rfl rfl (op_len rfl sl23 (ev1 rfl)) ?_
  refine zab rfl rfl rfl (zac (.inl rfl) (ev1 rfl)) ?_
  refine zab rfl rfl rfl (op_len rfl sl23 (ev1 rfl)) ?_
  refine zab rfl rfl rfl (op_neq rfl (ev1 rfl) (ev1 rfl)) ?_
  refine zae ?_
  refine dwp_cond rfl (fun c1 => ?_) (fun c1 => ?_)
  · try simp only [decide_eq_true_eq, decide_eq_false_iff_not, beq_iff_eq, bne_iff_ne, beq_eq_false_iff_ne, bne_eq_false_iff_eq, Bool.not_eq_true', Bool.not_eq_false', Bool.and_eq_true, Bool.or_eq_true, Bool.or_eq_false_iff, ne_eq, Decidable.not_not, Int.not_lt, Int.not_le] at c1
    refine zaf ?_
    refine zad ?_
    refine zab rfl rfl rfl (zac (.inr rfl) (ev1 rfl)) ?_
    refine zae ?_
    refine dwp_ret ?_
    refine kend0 (rs1 rfl (rv_t rfl)) rfl ?_
    have hne : l ≠ r := fun e => by subst e; exact c1 rfl
    rw [decide_eq_false hne]
  · try simp only [decide_eq_true_eq, decide_eq_false_iff_not, beq_iff_eq, bne_iff_ne, beq_eq_false_iff_ne, bne_eq_false_iff_eq, Bool.not_eq_true', Bool.not_eq_false', Bool.and_eq_true, Bool.or_eq_true, Bool.or_eq_false_iff, ne_eq, Decidable.not_not, Int.not_lt, Int.not_le] at c1
    have hlen : l.length = r.length := by omega
    refine dwp_skip ?_
    refine zaf ?_
    refine zaf ?_
    refine zad ?_
    refine zab rfl rfl rfl (zac (.inl rfl) (ev1 rfl)) ?_
    refine zab rfl rfl rfl (op_len rfl sl23 (ev1 rfl)) ?_
    refine zab rfl rfl rfl (zac (.inl rfl) (ev1 rfl)) ?_
    refine zae ?_
    refine dwp_block ?_
    refine dwp_loopS ⟨hs0, rfl⟩ (α := Nat) (fun k => [(13, .val (.int .i64 (k : Int)))]) [(0, _), (1, _), (12, _)] (fun k => []) [] (fun k => k ≤ l.length ∧ l.take k = r.take k) (fun k => l.length - k) 0 [] (by simp) rfl ⟨rfl, rfl, rfl, trivial⟩ ⟨rfl, trivial⟩ trivial ?_
    intro k hx
    simp only [upd, za, zaa, List.cons_append, List.nil_append]
    obtain ⟨hk, he⟩ := hx
    refine zaf ?_
    refine zad ?_
    refine zab rfl rfl rfl (op_lss rfl (ev1 rfl) (ev1 rfl)) ?_
    refine zae ?_
    refine zaf ?_
    refine dwp_cond rfl (fun c2 => ?_) (fun c2 => ?_)
    · try simp only [decide_eq_true_eq, decide_eq_false_iff_not, beq_iff_eq, bne_iff_ne, beq_eq_false_iff_ne, bne_eq_false_iff_eq, Bool.not_eq_true', Bool.not_eq_false', Bool.and_eq_true, Bool.or_eq_true, Bool.or_eq_false_iff, ne_eq, Decidable.not_not, Int.not_lt, Int.not_le] at c2
      refine dwp_skip ?_
      refine zaf ?_
      refine dwp_block ?_
      refine zaf ?_
      refine zad ?_
      refine zab rfl rfl rfl (zac (.inl rfl) (ev1 rfl)) ?_
      refine zab rfl rfl rfl (zac (.inr rfl) (ev1 rfl)) ?_
      refine zae ?_
      refine zaf ?_
      refine dwp_draw [([], []), ([], []), ([], []), ([], []), ([], []), ([], []), ([], []), ([], []), ([], [])] mixed (by kernel_rfl) ?_
      refine zag rfl rfl (zac (.inl rfl) (ev1 rfl)) ?_
      refine zag rfl rfl (zac (.inl rfl) (ev1 rfl)) ?_
      refine zag rfl rfl (op_ixsr (j := k) rfl sl23 (ev1 rfl) (ev1 rfl) (fun _ => rfl) (by decide) (by omega) (by omega)) ?_
      refine zag rfl rfl (op_ldod rfl tb5 (ev1 rfl) rfl) ?_
      refine zag rfl rfl (zac (.inl rfl) (ev1 rfl)) ?_
      refine zag rfl rfl (zac (.inl rfl) (ev1 rfl)) ?_
      refine zag rfl rfl (op_ixsr (j := k) rfl sl23 (ev1 rfl) (ev1 rfl) (fun _ => rfl) (by decide) (by omega) (by omega)) ?_
      refine zag rfl rfl (op_ldod rfl tb5 (ev1 rfl) rfl) ?_
      refine zag rfl rfl (op_neq rfl (ev1 rfl) (ev1 rfl)) ?_
      refine lex_nil ?_
      refine dwp_cond rfl (fun c2 => ?_) (fun c2 => ?_)
      · have c3 : l[k] ≠ r[k] := by simpa using c2
        refine zaf ?_
        refine zad ?_
        refine zab rfl rfl rfl (zac (.inr rfl) (ev1 rfl)) ?_
        refine zae ?_
        refine dwp_ret ?_
        refine kend0 (rs1 rfl (rv_t rfl)) rfl ?_
        have hne : l ≠ r := fun e => by subst e; exact c3 rfl
        rw [decide_eq_false hne]
      · have c3 : l[k] = r[k] := by simpa using c2
        refine dwp_skip ?_
        refine zad ?_
        refine zab rfl rfl rfl (op_add' rfl (ev1 rfl) (ev1 rfl) (fun _ => IntWalk.i64_in _ (by omega))) ?_
        refine zab rfl rfl rfl (zac (.inl rfl) (ev1 rfl)) ?_
        refine zae ?_
        refine ⟨k + 1, [], ⟨by omega, by rw [List.take_succ_eq_append_getElem (by omega), List.take_succ_eq_append_getElem (by omega), he, c3]⟩, by simp only []; omega, rfl, ⟨rfl, rfl, rfl, rfl, trivial⟩, trivial⟩
    · try simp only [decide_eq_true_eq, decide_eq_false_iff_not, beq_iff_eq, bne_iff_ne, beq_eq_false_iff_ne, bne_eq_false_iff_eq, Bool.not_eq_true', Bool.not_eq_false', Bool.and_eq_true, Bool.or_eq_true, Bool.or_eq_false_iff, ne_eq, Decidable.not_not, Int.not_lt, Int.not_le] at c2
      refine dwp_exit ?_
      refine zaf ?_
      refine zad ?_
      refine zab rfl rfl rfl (zac (.inr rfl) (ev1 rfl)) ?_
      refine zae ?_
      refine dwp_ret ?_
      refine kend0 (rs1 rfl (rv_t rfl)) rfl ?_
      have e : l = r := by
        have h := he
        rw [List.take_of_length_le (by omega), List.take_of_length_le (by omega)] at h
        exact h
      rw [decide_eq_true e]
set_option maxRecDepth 4000 in
set_option maxHeartbeats 1000000 in
theorem cloneB (l : List Int) (h : l.length ≤ 1000000) : DFun Try.prog 13 [.slf 1 l.length (l.flatMap u8V)] [] (.arr 0) [.arr 5 1 l.length (l.flatMap u8V)] := by
  refine dcalls_go (N := 8) 0 (by kernel_rfl) Try.func13 rfl rfl rfl (by simp only [fr0, Nat.zero_add, Nat.reduceAdd]; exact rfl) rfl fun s0 hs0 => ?_
  refine dwp_len (t := 0) rfl fun hl0 hL0 => ?_
  refine zaf ?_
  refine zad ?_
  refine zab rfl rfl rfl (zac (.inr rfl) (ev1 rfl)) ?_
  refine zae ?_
  refine zaf ?_
  refine zaf ?_
  refine zad ?_
  refine zab rfl rfl rfl (zac (.inl rfl) (ev1 rfl)) ?_
  refine walk_nil? rfl rfl rfl rfl sl23 (ev1 rfl) fun nb4 hnb4 => ?_
  refine zae ?_
  refine dwp_cond rfl (fun c1 => ?_) (fun c1 => ?_)
  · try simp only [decide_eq_true_eq, decide_eq_false_iff_not, beq_iff_eq, bne_iff_ne, beq_eq_false_iff_ne, bne_eq_false_iff_eq, Bool.not_eq_true', Bool.not_eq_false', Bool.and_eq_true, Bool.or_eq_true, Bool.or_eq_false_iff, ne_eq, Decidable.not_not, Int.not_lt, Int.not_le] at c1
    refine zaf ?_
    refine zad ?_
    refine zab rfl rfl rfl (zac (.inr rfl) (ev1 rfl)) ?_
    refine zae ?_
    refine dwp_adopt 2 5 1 rfl rfl rfl ?_
    refine dwp_ret ?_
    refine kend [0] (rs1 rfl (rv_t rfl)) rfl rfl ?_ ⟨?_, trivial⟩
    rfl
    exact (by obtain ⟨h1, h2⟩ := hnb4 c1; simp_all [MFits, vwB])
  · try simp only [decide_eq_true_eq, decide_eq_false_iff_not, beq_iff_eq, bne_iff_ne, beq_eq_false_iff_ne, bne_eq_false_iff_eq, Bool.not_eq_true', Bool.not_eq_false', Bool.and_eq_true, Bool.or_eq_true, Bool.or_eq_false_iff, ne_eq, Decidable.not_not, Int.not_lt, Int.not_le] at c1
    refine dwp_skip ?_
    refine zaf ?_
    refine zah 2 (by simp only [holes, List.cons_append, List.nil_append]; exact rfl) ?_
    refine zad ?_
    refine walk_w rfl rfl rfl (op_bsa (ps := []) 0 rfl sl23 zr5 rfl vn rfl (by decide) (by decide) rfl) (by simp only [upd, za, zaa]; exact rfl) ?_
    refine zab rfl rfl rfl (zac (.inl rfl) (ev1 rfl)) ?_
    refine walk_w rfl rfl rfl (op_app (j := 1) rfl sl23 zr5 rfl (ev1 rfl) (ev1 rfl) src_slf rfl rfl (fun _ => flat_oc (fun _ => rfl) l) (fun _ => ⟨by omega, by omega⟩)) (by simp only [upd, za, zaa]; exact rfl) ?_
    refine zab rfl rfl rfl (zac (.inr rfl) (ev1 rfl)) ?_
    refine zae ?_
    refine dwp_ret ?_
    refine kend [1] (rs1 rfl (rv_t rfl)) rfl rfl ?_ ⟨?_, trivial⟩
    rfl
    simp [vwB]
theorem tk_min {α : Type} (l : List α) (n : Nat) : l.take (min l.length n) = l.take n := by
  rcases Nat.le_total l.length n with h | h
  · rw [Nat.min_eq_left h, List.take_length, List.take_of_length_le h]
  · rw [Nat.min_eq_right h]
def spT : TL := zT.set 0 ⟨255, 0, 0, 255⟩
abbrev wkb1 : List Int := [32, 0, 0, 0, 0, 32, 0, 0, 0, 0]
abbrev wkb2 : List Int := [1, 1, 0, 9]
abbrev wkb3 : List Int := [1, 1, 64, 0, 0, 0, 0]
theorem wk1 : rdN wkb1 0 = none := by kernel_rfl
theorem wk2 : rdNs aheadK wkb2 1 [] 2 = some ([zT], 3) := by kernel_rfl
theorem wk3 : rdNs aheadK wkb3 1 [] 2 = none := by kernel_rfl
theorem wk4 : tileB zT = [64, 0, 0, 0, 0] := by kernel_rfl
theorem wk5 : canvasB 2 1 [zT, zT] = [2, 1, 0, 0] := by kernel_rfl
theorem wk6 : canvasB 1 1 [spT] = [1, 1, 1, 255, 0, 0, 255, 63, 0, 0, 0, 0] := by kernel_rfl
theorem wk7 : patchB 2 1 [zT, zT] [zT, zT] = [2, 1, 0, 0] := by kernel_rfl
theorem wk8 : sizeN [zT, spT] = 15 := by kernel_rfl
theorem wki1 : isB wkb1 := by unfold isB; decide
theorem wki2 : isB wkb2 := by unfold isB; decide
theorem wki3 : isB wkb3 := by unfold isB; decide
set_option maxRecDepth 4000 in
set_option maxHeartbeats 1000000 in
theorem wakes_d : DFun Try.prog 8 [] [] (.val (.bool true)) [] := by
  refine dcalls_go (N := 117) 0 (by kernel_rfl) Try.func8 rfl rfl rfl (by simp only [fr0, Nat.zero_add, Nat.reduceAdd]; exact rfl) rfl fun s0 hs0 => ?_
  refine zaf ?_
  refine zad ?_
  refine zab rfl rfl rfl (zac (.inr rfl) (ev1 rfl)) ?_
  refine zae ?_
  refine zaf ?_
  refine zah 1 (by simp only [holes, List.cons_append, List.nil_append]; exact rfl) ?_
  refine zad ?_
  refine zab rfl rfl rfl (op_build0a rfl ar29 zr29) ?_
  refine walk_w rfl rfl rfl (op_alloc 0 rfl zr29 rfl) (by simp only [upd, za, zaa]; exact rfl) ?_
  refine walk_s rfl rfl (op_stwa rfl tb29 (ev1 rfl) (ev1 rfl) rfl (tc_len _) (tc_oc _) ((tc_len _).trans (tc_len _).symm)) (by simp only [upd, za, zaa]; exact rfl) ?_
  refine zae ?_
  refine zaf ?_
  refine zah 1 (by simp only [holes, List.cons_append, List.nil_append]; exact rfl) ?_
  refine zad ?_
  refine zab rfl rfl rfl (op_ldw rfl tb29 (ev1 rfl) rfl (tc_len _)) ?_
  refine walk_w rfl rfl rfl (op_alloc 1 rfl zr29 rfl) (by simp only [upd, za, zaa]; exact rfl) ?_
  refine walk_s rfl rfl (op_stwa rfl tb29 (ev1 rfl) (ev1 rfl) rfl (tc_len _) (tc_oc _) ((tc_len _).trans (tc_len _).symm)) (by simp only [upd, za, zaa]; exact rfl) ?_
  refine zae ?_
  refine zaf ?_
  refine zad ?_
  refine zab rfl rfl rfl (op_build (ps := [(0, .const (.int .u8 255)), (3, .const (.int .u8 255))]) rfl fl27 zr27 (vc (ev1 rfl) (vc (ev1 rfl) vn)) rfl rfl) ?_
  refine zab rfl rfl rfl (op_ixfr (j := 0) rfl ar29 (ev1 rfl) (ev1 rfl) (fun _ => by omega) (fun _ => by omega)) ?_
  refine walk_s rfl rfl (op_stfr (q := (⟨255, 0, 0, 255⟩ : C4)) rfl tb27 (ev1 rfl) (ev1 rfl) rfl rfl rfl (fun _ => rfl) (fun _ => by rw [TL.h]; omega)) (by simp only [upd, za, zaa]; exact rfl) ?_
  refine zae ?_
  refine zaf ?_
  refine dwp_eqB 1 (show Blk.flat 29 (tc (zT.set 0 ⟨255, 0, 0, 255⟩)) = .flat 29 (tc spT) from rfl) rfl (by simp only [List.cons_append, List.nil_append, za, zaa]; exact rfl) ?_
  refine zah 1 (by simp only [holes, List.cons_append, List.nil_append]; exact rfl) ?_
  refine zad ?_
  refine zab rfl rfl rfl (op_ldw rfl tb29 (ev1 rfl) rfl (tc_len _)) ?_
  refine zab rfl rfl rfl (op_ldw rfl tb29 (ev1 rfl) rfl (tc_len _)) ?_
  refine zab rfl rfl rfl (op_bs (ps := [(0, .tmp 23), (1, .tmp 24)]) rfl sl22 zr29 rfl (vc (ev1 rfl) (vc (ev1 rfl) vn)) (tc_sz _) (by decide) (by decide)) ?_
  refine zab rfl rfl rfl (op_bldD (ps := [(0, .const (.int .i64 2)), (1, .const (.int .i64 1)), (2, .tmp 25)]) rfl fl41 zr41 (ec (ev1 rfl) (ec (ev1 rfl) (ec (ev1 rfl) en))) rfl rfl rfl) ?_
  refine walk_w rfl rfl rfl (op_alloc 2 rfl zr41 rfl) (by simp only [upd, za, zaa]; exact rfl) ?_
  refine walk_s rfl rfl (op_stam rfl tb41 (ev1 rfl) (ev1 rfl) rfl rfl rfl rfl) (by simp only [upd, za, zaa]; exact rfl) ?_
  refine zae ?_
  refine zaf ?_
  refine zad ?_
  refine zab rfl rfl rfl (op_ldmw rfl tb41 (ev1 rfl) rfl rfl) ?_
  refine zab rfl rfl rfl (zaj [] [] [] rfl (ev1 rfl) (ec (ev1 rfl) en) rfl rfl (cnv_f 2 1 [zT, zT] rfl (by decide)) rfl rfl rfl rfl rfl rfl) ?_
  refine zab rfl rfl rfl (zac (.inl rfl) (ev1 rfl)) ?_
  refine zab rfl rfl rfl (op_ext rfl (ev1 rfl) rfl) ?_
  refine zab rfl rfl rfl (op_ext rfl (ev1 rfl) rfl) ?_
  refine zab rfl rfl rfl (zac (.inr rfl) (ev1 rfl)) ?_
  refine zab rfl rfl rfl (zac (.inr rfl) (ev1 rfl)) ?_
  refine zae ?_
  refine zaf ?_
  refine zad ?_
  refine zab rfl rfl rfl (op_ldw rfl tb29 (ev1 rfl) rfl (tc_len _)) ?_
  refine zab rfl rfl rfl (op_bs (ps := [(0, .tmp 33)]) rfl sl22 zr29 rfl (vc (ev1 rfl) vn) (tc_sz _) (by decide) (by decide)) ?_
  refine zab rfl rfl rfl (op_bldD (ps := [(0, .const (.int .i64 1)), (1, .const (.int .i64 1)), (2, .tmp 34)]) rfl fl41 zr41 (ec (ev1 rfl) (ec (ev1 rfl) (ec (ev1 rfl) en))) rfl rfl rfl) ?_
  refine zab rfl rfl rfl (zaj [] [] [] rfl (ev1 rfl) (ec (ev1 rfl) en) rfl rfl (cnv_f 1 1 [spT] rfl (by decide)) rfl rfl rfl rfl rfl rfl) ?_
  refine zab rfl rfl rfl (zac (.inl rfl) (ev1 rfl)) ?_
  refine zab rfl rfl rfl (op_ext rfl (ev1 rfl) rfl) ?_
  refine zab rfl rfl rfl (op_ext rfl (ev1 rfl) rfl) ?_
  refine zab rfl rfl rfl (zac (.inr rfl) (ev1 rfl)) ?_
  refine zab rfl rfl rfl (zac (.inr rfl) (ev1 rfl)) ?_
  refine zae ?_
  refine zaf ?_
  refine zah 1 (by simp only [holes, List.cons_append, List.nil_append]; exact rfl) ?_
  refine zad ?_
  refine zab rfl rfl rfl (op_bs (ps := [(0, .const (.int .u8 32)), (1, .const (.int .u8 0)), (2, .const (.int .u8 0)), (3, .const (.int .u8 0)), (4, .const (.int .u8 0)), (5, .const (.int .u8 32)), (6, .const (.int .u8 0)), (7, .const (.int .u8 0)), (8, .const (.int .u8 0)), (9, .const (.int .u8 0))]) rfl sl23 zr5 rfl (vc (ev1 rfl) (vc (ev1 rfl) (vc (ev1 rfl) (vc (ev1 rfl) (vc (ev1 rfl) (vc (ev1 rfl) (vc (ev1 rfl) (vc (ev1 rfl) (vc (ev1 rfl) (vc (ev1 rfl) vn)))))))))) rfl (by decide) (by decide)) ?_
  refine zab rfl rfl rfl (zaj [] [] [] rfl (ev1 rfl) (ec (ev1 rfl) en) rfl rfl (rdt_no wkb1 (by decide) wki1 wk1) rfl rfl rfl rfl rfl rfl) ?_
  refine zab rfl rfl rfl (zac (.inl rfl) (ev1 rfl)) ?_
  refine zab rfl rfl rfl (op_ext rfl (ev1 rfl) rfl) ?_
  refine zab rfl rfl rfl (op_ext rfl (ev1 rfl) rfl) ?_
  refine zab rfl rfl rfl (op_ext rfl (ev1 rfl) rfl) ?_
  refine walk_w rfl rfl rfl (op_alloc 3 rfl zr29 rfl) (by simp only [upd, za, zaa]; exact rfl) ?_
  refine walk_s rfl rfl (op_stwa rfl tb29 (ev1 rfl) (ev1 rfl) rfl (tc_len _) (tc_oc _) ((tc_len _).trans (tc_len _).symm)) (by simp only [upd, za, zaa]; exact rfl) ?_
  refine zab rfl rfl rfl (zac (.inr rfl) (ev1 rfl)) ?_
  refine zab rfl rfl rfl (zac (.inr rfl) (ev1 rfl)) ?_
  refine zae ?_
  refine zaf ?_
  refine zah 1 (by simp only [holes, List.cons_append, List.nil_append]; exact rfl) ?_
  refine zad ?_
  refine zab rfl rfl rfl (op_bs (ps := [(0, .const (.int .u8 1)), (1, .const (.int .u8 1)), (2, .const (.int .u8 0)), (3, .const (.int .u8 9))]) rfl sl23 zr5 rfl (vc (ev1 rfl) (vc (ev1 rfl) (vc (ev1 rfl) (vc (ev1 rfl) vn)))) rfl (by decide) (by decide)) ?_
  refine zab rfl rfl rfl (zaj [] [] [] rfl (ev1 rfl) (ec (ev1 rfl) en) rfl rfl (rdc_f wkb2 (by decide) wki2 1 (by decide) rfl rfl [zT] 3 wk2) rfl rfl rfl rfl rfl rfl) ?_
  refine zab rfl rfl rfl (zac (.inl rfl) (ev1 rfl)) ?_
  refine zab rfl rfl rfl (op_ext rfl (ev1 rfl) rfl) ?_
  refine zab rfl rfl rfl (op_ext rfl (ev1 rfl) rfl) ?_
  refine zab rfl rfl rfl (op_ext rfl (ev1 rfl) rfl) ?_
  refine walk_w rfl rfl rfl (op_alloc 4 rfl zr41 rfl) (by simp only [upd, za, zaa]; exact rfl) ?_
  refine walk_s rfl rfl (op_stam rfl tb41 (ev1 rfl) (ev1 rfl) rfl rfl rfl rfl) (by simp only [upd, za, zaa]; exact rfl) ?_
  refine zab rfl rfl rfl (zac (.inr rfl) (ev1 rfl)) ?_
  refine zab rfl rfl rfl (zac (.inr rfl) (ev1 rfl)) ?_
  refine zae ?_
  refine zaf ?_
  refine zah 1 (by simp only [holes, List.cons_append, List.nil_append]; exact rfl) ?_
  refine zad ?_
  refine zab rfl rfl rfl (op_bs (ps := [(0, .const (.int .u8 1)), (1, .const (.int .u8 1)), (2, .const (.int .u8 64)), (3, .const (.int .u8 0)), (4, .const (.int .u8 0)), (5, .const (.int .u8 0)), (6, .const (.int .u8 0))]) rfl sl23 zr5 rfl (vc (ev1 rfl) (vc (ev1 rfl) (vc (ev1 rfl) (vc (ev1 rfl) (vc (ev1 rfl) (vc (ev1 rfl) (vc (ev1 rfl) vn))))))) rfl (by decide) (by decide)) ?_
  refine zab rfl rfl rfl (zaj [] [] [] rfl (ev1 rfl) (ec (ev1 rfl) en) rfl rfl (rdc_n3 wkb3 (by decide) wki3 1 (by decide) rfl rfl wk3) rfl rfl rfl rfl rfl rfl) ?_
  refine zab rfl rfl rfl (zac (.inl rfl) (ev1 rfl)) ?_
  refine zab rfl rfl rfl (op_ext rfl (ev1 rfl) rfl) ?_
  refine zab rfl rfl rfl (op_ext rfl (ev1 rfl) rfl) ?_
  refine zab rfl rfl rfl (op_ext rfl (ev1 rfl) rfl) ?_
  refine walk_w rfl rfl rfl (op_alloc 5 rfl zr41 rfl) (by simp only [upd, za, zaa]; exact rfl) ?_
  refine walk_s rfl rfl (op_stwa rfl tb41 (ev1 rfl) (ev1 rfl) rfl rfl rfl rfl) (by simp only [upd, za, zaa]; exact rfl) ?_
  refine zab rfl rfl rfl (zac (.inr rfl) (ev1 rfl)) ?_
  refine zab rfl rfl rfl (zac (.inr rfl) (ev1 rfl)) ?_
  refine zae ?_
  refine zaf ?_
  refine zad ?_
  refine zab rfl rfl rfl (op_ldmw rfl tb41 (ev1 rfl) rfl rfl) ?_
  refine zab rfl rfl rfl (op_ldmw rfl tb41 (ev1 rfl) rfl rfl) ?_
  refine zab rfl rfl rfl (zaj [] [] [] rfl (ev1 rfl) (ec (ev1 rfl) (ec (ev1 rfl) en)) rfl rfl (ptc_f 2 1 [zT, zT] [zT, zT] rfl rfl (by decide) (by decide)) rfl rfl rfl rfl rfl rfl) ?_
  refine zab rfl rfl rfl (zac (.inl rfl) (ev1 rfl)) ?_
  refine zab rfl rfl rfl (op_ext rfl (ev1 rfl) rfl) ?_
  refine zab rfl rfl rfl (op_ext rfl (ev1 rfl) rfl) ?_
  refine zab rfl rfl rfl (zac (.inr rfl) (ev1 rfl)) ?_
  refine zab rfl rfl rfl (zac (.inr rfl) (ev1 rfl)) ?_
  refine zae ?_
  refine zaf ?_
  refine zad ?_
  refine zab rfl rfl rfl (zac (.inl rfl) (ev1 rfl)) ?_
  refine zab rfl rfl rfl ((op_eql rfl (ev1 rfl) (ev1 rfl)).cast (d' := .val (.bool true)) (by kernel_rfl)) ?_
  refine zab rfl rfl rfl (zac (.inl rfl) (ev1 rfl)) ?_
  refine walk_k (gd_t (b := true) rfl rfl rfl) rfl rfl rfl (zac (.inl rfl) (ev1 rfl)) (by simp only [upd, za, zaa]; exact rfl) ?_
  refine walk_k (gd_t (b := true) rfl rfl rfl) rfl rfl rfl ((op_eql rfl (ev2 rfl) (ev1 rfl)).cast (d' := .val (.bool true)) (by kernel_rfl)) (by simp only [upd, za, zaa]; exact rfl) ?_
  refine zab rfl rfl rfl ((op_and rfl (ev1 rfl) (ev3 rfl (fun _ => rfl))).cast (d' := .val (.bool true)) (by rfl)) ?_
  refine zab rfl rfl rfl (zac (.inl rfl) (ev1 rfl)) ?_
  refine walk_k (gd_t (b := true) rfl rfl rfl) rfl rfl rfl (zac (.inl rfl) (ev1 rfl)) (by simp only [upd, za, zaa]; exact rfl) ?_
  refine walk_k (gd_t (b := true) rfl rfl rfl) rfl rfl rfl ((op_eql rfl (ev2 rfl) (ev1 rfl)).cast (d' := .val (.bool true)) (by kernel_rfl)) (by simp only [upd, za, zaa]; exact rfl) ?_
  refine zab rfl rfl rfl ((op_and rfl (ev1 rfl) (ev3 rfl (fun _ => rfl))).cast (d' := .val (.bool true)) (by rfl)) ?_
  refine zab rfl rfl rfl (zac (.inl rfl) (ev1 rfl)) ?_
  refine walk_k (gd_t (b := true) rfl rfl rfl) rfl rfl rfl (zac (.inl rfl) (ev1 rfl)) (by simp only [upd, za, zaa]; exact rfl) ?_
  refine walk_k (gd_t (b := true) rfl rfl rfl) rfl rfl rfl ((op_eql rfl (ev2 rfl) (ev1 rfl)).cast (d' := .val (.bool true)) (by kernel_rfl)) (by simp only [upd, za, zaa]; exact rfl) ?_
  refine zab rfl rfl rfl ((op_and rfl (ev1 rfl) (ev3 rfl (fun _ => rfl))).cast (d' := .val (.bool true)) (by rfl)) ?_
  refine zab rfl rfl rfl (zac (.inl rfl) (ev1 rfl)) ?_
  refine walk_k (gd_t (b := true) rfl rfl rfl) rfl rfl rfl (zac (.inl rfl) (ev1 rfl)) (by simp only [upd, za, zaa]; exact rfl) ?_
  refine walk_k (gd_t (b := true) rfl rfl rfl) rfl rfl rfl ((op_eql rfl (ev2 rfl) (ev1 rfl)).cast (d' := .val (.bool true)) (by kernel_rfl)) (by simp only [upd, za, zaa]; exact rfl) ?_
  refine zab rfl rfl rfl ((op_and rfl (ev1 rfl) (ev3 rfl (fun _ => rfl))).cast (d' := .val (.bool true)) (by rfl)) ?_
  refine zab rfl rfl rfl (zac (.inl rfl) (ev1 rfl)) ?_
  refine walk_k (gd_t (b := true) rfl rfl rfl) rfl rfl rfl (zac (.inl rfl) (ev1 rfl)) (by simp only [upd, za, zaa]; exact rfl) ?_
  refine walk_k (gd_t (b := true) rfl rfl rfl) rfl rfl rfl ((op_eql rfl (ev2 rfl) (ev1 rfl)).cast (d' := .val (.bool true)) (by kernel_rfl)) (by simp only [upd, za, zaa]; exact rfl) ?_
  refine zab rfl rfl rfl ((op_and rfl (ev1 rfl) (ev3 rfl (fun _ => rfl))).cast (d' := .val (.bool true)) (by rfl)) ?_
  refine zab rfl rfl rfl (zac (.inl rfl) (ev1 rfl)) ?_
  refine walk_k (gd_t (b := true) rfl rfl rfl) rfl rfl rfl (op_ldw rfl tb29 (ev1 rfl) rfl (tc_len _)) (by simp only [upd, za, zaa]; exact rfl) ?_
  refine walk_k (gd_t (b := true) rfl rfl rfl) rfl rfl rfl (zaj [] [] [] rfl (ev1 rfl) (ec (ev2 rfl) en) rfl rfl (rtile_d zT) rfl rfl rfl rfl rfl rfl) (by simp only [upd, za, zaa]; exact rfl) ?_
  refine walk_k (gd_t (b := true) rfl rfl rfl) rfl rfl rfl (op_bs (ps := [(0, .const (.int .u8 64)), (1, .const (.int .u8 0)), (2, .const (.int .u8 0)), (3, .const (.int .u8 0)), (4, .const (.int .u8 0))]) rfl sl23 zr5 rfl (vc (ev1 rfl) (vc (ev1 rfl) (vc (ev1 rfl) (vc (ev1 rfl) (vc (ev1 rfl) vn))))) rfl (by decide) (by decide)) (by simp only [upd, za, zaa]; exact rfl) ?_
  refine walk_k (gd_t (b := true) rfl rfl rfl) rfl rfl rfl (zaj [] [] [] rfl (ev1 rfl) (ec (ev2 rfl) (ec (ev2 rfl) en)) rfl rfl (equalB (tileB zT) [64, 0, 0, 0, 0]) rfl rfl rfl rfl rfl rfl) (by simp only [upd, za, zaa]; exact rfl) ?_
  refine zab rfl rfl rfl (op_and rfl (ev1 rfl) (ev3 rfl (fun _ => rfl))) ?_
  refine zab rfl rfl rfl (zac (.inl rfl) (ev1 rfl)) ?_
  refine zai (gd_t rfl rfl rfl) rfl rfl rfl (zac (.inl rfl) (ev1 rfl)) ?_
  refine zai (gd_t rfl rfl rfl) rfl rfl rfl (op_bs (ps := [(0, .const (.int .u8 2)), (1, .const (.int .u8 1)), (2, .const (.int .u8 0)), (3, .const (.int .u8 0))]) rfl sl23 zr5 rfl (vc (ev1 rfl) (vc (ev1 rfl) (vc (ev1 rfl) (vc (ev1 rfl) vn)))) rfl (by decide) (by decide)) ?_
  refine zai (gd_t rfl rfl rfl) rfl rfl rfl (zaj [] [] [] rfl (ev1 rfl) (ec (ev2 rfl) (ec (ev2 rfl) en)) rfl rfl (equalB (canvasB 2 1 [zT, zT]) [2, 1, 0, 0]) rfl rfl rfl rfl rfl rfl) ?_
  refine zab rfl rfl rfl (op_and rfl (ev1 rfl) (ev3 rfl id)) ?_
  refine zab rfl rfl rfl (zac (.inl rfl) (ev1 rfl)) ?_
  refine zai (gd_t rfl rfl rfl) rfl rfl rfl (zac (.inl rfl) (ev1 rfl)) ?_
  refine zai (gd_t rfl rfl rfl) rfl rfl rfl (op_bs (ps := [(0, .const (.int .u8 1)), (1, .const (.int .u8 1)), (2, .const (.int .u8 1)), (3, .const (.int .u8 255)), (4, .const (.int .u8 0)), (5, .const (.int .u8 0)), (6, .const (.int .u8 255)), (7, .const (.int .u8 63)), (8, .const (.int .u8 0)), (9, .const (.int .u8 0)), (10, .const (.int .u8 0)), (11, .const (.int .u8 0))]) rfl sl23 zr5 rfl (vc (ev1 rfl) (vc (ev1 rfl) (vc (ev1 rfl) (vc (ev1 rfl) (vc (ev1 rfl) (vc (ev1 rfl) (vc (ev1 rfl) (vc (ev1 rfl) (vc (ev1 rfl) (vc (ev1 rfl) (vc (ev1 rfl) (vc (ev1 rfl) vn)))))))))))) rfl (by decide) (by decide)) ?_
  refine zai (gd_t rfl rfl rfl) rfl rfl rfl (zaj [] [] [] rfl (ev1 rfl) (ec (ev2 rfl) (ec (ev2 rfl) en)) rfl rfl (equalB (canvasB 1 1 [spT]) [1, 1, 1, 255, 0, 0, 255, 63, 0, 0, 0, 0]) rfl rfl rfl rfl rfl rfl) ?_
  refine zab rfl rfl rfl (op_and rfl (ev1 rfl) (ev3 rfl id)) ?_
  refine zab rfl rfl rfl (zac (.inl rfl) (ev1 rfl)) ?_
  refine zai (gd_t rfl rfl rfl) rfl rfl rfl (zac (.inl rfl) (ev1 rfl)) ?_
  refine zai (gd_t rfl rfl rfl) rfl rfl rfl ((op_eql rfl (ev2 rfl) (ev1 rfl)).cast (d' := .val (.bool true)) (by kernel_rfl)) ?_
  refine zab rfl rfl rfl (op_and rfl (ev1 rfl) (ev3 rfl id)) ?_
  refine zab rfl rfl rfl (zac (.inl rfl) (ev1 rfl)) ?_
  refine zai (gd_t rfl rfl rfl) rfl rfl rfl (zac (.inl rfl) (ev1 rfl)) ?_
  refine zai (gd_t rfl rfl rfl) rfl rfl rfl (op_bs (ps := [(0, .const (.int .u8 2)), (1, .const (.int .u8 1)), (2, .const (.int .u8 0)), (3, .const (.int .u8 0))]) rfl sl23 zr5 rfl (vc (ev1 rfl) (vc (ev1 rfl) (vc (ev1 rfl) (vc (ev1 rfl) vn)))) rfl (by decide) (by decide)) ?_
  refine zai (gd_t rfl rfl rfl) rfl rfl rfl (zaj [] [] [] rfl (ev1 rfl) (ec (ev2 rfl) (ec (ev2 rfl) en)) rfl rfl (equalB (patchB 2 1 [zT, zT] [zT, zT]) [2, 1, 0, 0]) rfl rfl rfl rfl rfl rfl) ?_
  refine zab rfl rfl rfl (op_and rfl (ev1 rfl) (ev3 rfl id)) ?_
  refine zab rfl rfl rfl (zac (.inl rfl) (ev1 rfl)) ?_
  refine zai (gd_t rfl rfl rfl) rfl rfl rfl (op_ldw rfl tb29 (ev1 rfl) rfl (tc_len _)) ?_
  refine zai (gd_t rfl rfl rfl) rfl rfl rfl (op_ldw rfl tb29 (ev1 rfl) rfl (tc_len _)) ?_
  refine zai (gd_t rfl rfl rfl) rfl rfl rfl (op_bs (ps := [(0, .tmp 111), (1, .tmp 112)]) rfl sl22 zr29 rfl (vc (ev2 rfl) (vc (ev2 rfl) vn)) (tc_sz _) (by decide) (by decide)) ?_
  refine zai (gd_t rfl rfl rfl) rfl rfl rfl (zaj [] [] [] rfl (ev1 rfl) (ec (ev2 rfl) en) rfl rfl (size_d [zT, spT] (by decide)) rfl rfl rfl rfl rfl rfl) ?_
  refine zai (gd_t rfl rfl rfl) rfl rfl rfl (op_eql rfl (ev2 rfl) (ev1 rfl)) ?_
  refine zab rfl rfl rfl (op_and rfl (ev1 rfl) (ev3 rfl id)) ?_
  refine zab rfl rfl rfl (zac (.inr rfl) (ev1 rfl)) ?_
  refine zae ?_
  refine dwp_ret ?_
  refine kend0 (rs1 rfl (rv_t rfl)) rfl ?_
  rw [wk4, wk5, wk6, wk7, wk8]
  rfl
end Go.Proofs.Ytcbfnbfhlofkiaa
namespace Go.Proofs.Ytcbfnbfhlofkiaa
set_option maxRecDepth 4000
set_option linter.unusedVariables false
set_option linter.unusedSimpArgs false
open Go.RowKit
def C4.rng (c : C4) : Prop := (0 ≤ c.r ∧ c.r ≤ 255) ∧ (0 ≤ c.g ∧ c.g ≤ 255) ∧ (0 ≤ c.b ∧ c.b ≤ 255) ∧ 0 ≤ c.a ∧ c.a ≤ 255
theorem tileB_isB {t : TL} (ht : ∀ c ∈ t.l, c.rng) : isB (tileB t) := by
  intro z hz
  unfold tileB bytesG at hz
  obtain ⟨r, hr, hz⟩ := List.mem_flatMap.1 hz
  have hc : r.2 ∈ t.l := by
    rw [← flat_runG t.l]
    unfold flatG
    refine List.mem_flatMap.2 ⟨r, hr, ?_⟩
    have := goodG_pos (good_runG t.l) r hr
    exact List.mem_replicate.2 ⟨by omega, rfl⟩
  have hn : r.1 ≤ 64 := by
    have h1 : (List.replicate r.1 r.2).length ≤ (flatG (runG t.l)).length := by
      obtain ⟨i, hi, rfl⟩ := List.getElem_of_mem hr
      have := posG_le hi
      rw [List.length_replicate]; omega
    rw [flat_runG, t.h, List.length_replicate] at h1
    exact h1
  have hr2 := ht _ hc
  unfold C4.rng at hr2
  unfold encG at hz
  simp only [List.mem_cons, List.not_mem_nil, or_false] at hz
  rcases hz with rfl | rfl | rfl | rfl | rfl <;> omega
end Go.Proofs.Ytcbfnbfhlofkiaa
namespace Go.Proofs.Ytcbfnbfhlofkiaa
set_option maxRecDepth 4000
set_option linter.unusedVariables false
set_option linter.unusedSimpArgs false
open Go.RowKit
open Go.ChangeShapes Go.WideShapes Go.ChangeAt Go.Joins Go.Deep
theorem fits_prim_i64 {v : Value} (h : (Prim.int .i64).is v) : ∃ a : Int, (-9223372036854775808 ≤ a ∧ a ≤ 9223372036854775807) ∧ v = .int .i64 a := by
  obtain ⟨x, rfl, w⟩ := h
  exact ⟨x, by simpa [Lit.wf, IntKind.min, IntKind.max, IntKind.signed, IntKind.bits] using w, rfl⟩
theorem fitsP_append : ∀ (a b : List Prim) (cs : List Value), fitsP (a ++ b) cs → ∃ c d, cs = c ++ d ∧ fitsP a c ∧ fitsP b d
  | [], _, cs, h => ⟨[], cs, rfl, trivial, h⟩
  | _ :: _, _, [], h => by cases h
  | p :: a, b, v :: cs, h => by
    obtain ⟨h1, h2⟩ := h
    obtain ⟨c, d, rfl, h3, h4⟩ := fitsP_append a b cs h2
    exact ⟨v :: c, d, rfl, ⟨h1, h3⟩, h4⟩
theorem fitsP_cons {p : Prim} {ps : List Prim} {cs : List Value} (h : fitsP (p :: ps) cs) : ∃ v r, cs = v :: r ∧ p.is v ∧ fitsP ps r := by
  cases cs with
  | nil => cases h
  | cons v r => exact ⟨v, r, rfl, h.1, h.2⟩
theorem fitsP_nil {cs : List Value} (h : fitsP [] cs) : cs = [] := by
  cases cs with
  | nil => rfl
  | cons v r => cases h
theorem fits_u8 {v : Value} (h : (Prim.int .u8).is v) : ∃ a : Int, (0 ≤ a ∧ a ≤ 255) ∧ v = .int .u8 a := by
  obtain ⟨x, rfl, w⟩ := h
  exact ⟨x, by simpa [Lit.wf, IntKind.min, IntKind.max, IntKind.signed, IntKind.bits] using w, rfl⟩
theorem fits_c4 (cs : List Value) (h : fitsP [.int .u8, .int .u8, .int .u8, .int .u8] cs) : ∃ a : C4, a.rng ∧ cs = c4 a := by
  obtain ⟨x0, r, rfl, h0, h⟩ := fitsP_cons h
  obtain ⟨x1, r, rfl, h1, h⟩ := fitsP_cons h
  obtain ⟨x2, r, rfl, h2, h⟩ := fitsP_cons h
  obtain ⟨x3, r, rfl, h3, h⟩ := fitsP_cons h
  obtain rfl := fitsP_nil h
  obtain ⟨a0, w0, rfl⟩ := fits_u8 h0
  obtain ⟨a1, w1, rfl⟩ := fits_u8 h1
  obtain ⟨a2, w2, rfl⟩ := fits_u8 h2
  obtain ⟨a3, w3, rfl⟩ := fits_u8 h3
  exact ⟨⟨a0, a1, a2, a3⟩, ⟨w0, w1, w2, w3⟩, rfl⟩
theorem fits_cs : ∀ (n : Nat) (cs : List Value), fitsP (List.replicate n [.int .u8, .int .u8, .int .u8, .int .u8]).flatten cs → ∃ l : List C4, l.length = n ∧ (∀ c ∈ l, c.rng) ∧ cs = l.flatMap c4
  | 0, [], _ => ⟨[], rfl, (fun c h => by cases h), rfl⟩
  | 0, _ :: _, h => by cases h
  | n + 1, cs, h => by
    rw [List.replicate_succ, List.flatten_cons] at h
    obtain ⟨a, b, rfl, h1, h2⟩ := fitsP_append _ _ _ h
    obtain ⟨c, hc, rfl⟩ := fits_c4 _ h1
    obtain ⟨l, hl, hr, rfl⟩ := fits_cs n b h2
    exact ⟨c :: l, by rw [List.length_cons, hl], fun d hd => (List.mem_cons.1 hd).elim (fun e => e ▸ hc) (hr d), rfl⟩
theorem fits_tl (cs : List Value) (h : fitsP (List.replicate 64 [.int .u8, .int .u8, .int .u8, .int .u8]).flatten cs) : ∃ t : TL, (∀ c ∈ t.l, c.rng) ∧ cs = tc t := by
  obtain ⟨l, hl, hr, rfl⟩ := fits_cs 64 cs h
  exact ⟨⟨l, hl⟩, hr, rfl⟩
end Go.Proofs.Ytcbfnbfhlofkiaa
