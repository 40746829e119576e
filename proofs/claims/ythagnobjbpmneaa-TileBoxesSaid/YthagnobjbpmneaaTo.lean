/- the reference's box -/
import Derived.Test.YthagnobjbpmneaaTn
namespace Go.Proofs.Ythagnobjbpmneaa
set_option linter.unusedVariables false
set_option linter.unusedSimpArgs false
open Go.RowKit

def refS (f : Bool) (b : B4) (p : P2) : B4 := if f then ⟨if p.x < b.x0 then p.x else b.x0, b.y0, if b.x1 < p.x then p.x else b.x1, p.y⟩ else ⟨p.x, p.y, p.x, p.y⟩
def refK (t u : TL) : Nat → B4 × Bool
  | 0 => (zB, false)
  | k + 1 => if t.get k = u.get k then refK t u k else (refS (refK t u k).2 (refK t u k).1 ⟨(k : Int) % 8, (k : Int) / 8⟩, true)
theorem refK_inv (t u : TL) : ∀ k : Nat, k ≤ 64 → ((refK t u k).2 = false → (refK t u k).1 = zB ∧ boxK t u k = startB ∧ ∀ j, j < k → t.get j = u.get j) ∧
    ((refK t u k).2 = true → (refK t u k).1 = boxK t u k ∧ (boxK t u k).y0 ≤ (k : Int) / 8 ∧ (boxK t u k).y1 ≤ (k : Int) / 8 ∧ ∃ j, j < k ∧ t.get j ≠ u.get j)
  | 0, _ => ⟨fun _ => ⟨rfl, rfl, fun j hj => by omega⟩, fun h => by cases h⟩
  | k + 1, hk => by
    obtain ⟨h1, h2⟩ := refK_inv t u k (by omega)
    rw [refK, boxK, stepC]
    by_cases e : t.get k = u.get k
    · rw [if_pos e, if_pos e]
      refine ⟨fun h => ?_, fun h => ?_⟩
      · obtain ⟨g1, g2, g3⟩ := h1 h
        exact ⟨g1, g2, fun j hj => by
          by_cases q : j = k
          · rw [q]; exact e
          · exact g3 j (by omega)⟩
      · obtain ⟨g1, g2, g3, j, g4, g5⟩ := h2 h
        exact ⟨g1, by omega, by omega, j, by omega, g5⟩
    · rw [if_neg e, if_neg e]
      refine ⟨fun h => absurd h (by simp), fun _ => ?_⟩
      cases hf : (refK t u k).2 with
      | false =>
        obtain ⟨g1, g2, g3⟩ := h1 hf
        rw [g2]
        refine ⟨?_, ?_, ?_, k, by omega, e⟩
        · simp only [refS, mmB, startB, B4.mk.injEq, if_false, Bool.false_eq_true]
          omega
        · simp only [mmB, startB]
          omega
        · simp only [mmB, startB]
          omega
      | true =>
        obtain ⟨g1, g2, g3, _⟩ := h2 hf
        rw [g1]
        refine ⟨?_, ?_, ?_, k, by omega, e⟩
        · simp only [refS, mmB, B4.mk.injEq, if_true]
          refine ⟨?_, ?_, ?_, ?_⟩
          · split <;> omega
          · omega
          · split <;> omega
          · omega
        · simp only [mmB]
          omega
        · simp only [mmB]
          omega
theorem refBox_eq (t u : TL) : refK t u 64 = boxT t u := by
  obtain ⟨h1, h2⟩ := refK_inv t u 64 (by omega)
  unfold boxT
  cases hf : (refK t u 64).2 with
  | false =>
    obtain ⟨g1, _, g3⟩ := h1 hf
    rw [if_pos (TL.ext_get g3), ← g1, ← hf]
  | true =>
    obtain ⟨g1, _, _, j, g4, g5⟩ := h2 hf
    rw [if_neg (fun q => g5 (by rw [q])), ← g1, ← hf]
theorem refK_same {t u : TL} {y x : Nat} (h : t.get (8 * y + x) = u.get (8 * y + x)) : refK t u (8 * y + (x + 1)) = refK t u (8 * y + x) := by
  rw [← Nat.add_assoc, refK, if_pos h]
theorem refK_diff {t u : TL} {y x : Nat} (hx : x < 8) (h : t.get (8 * y + x) ≠ u.get (8 * y + x)) : refK t u (8 * y + (x + 1)) = (refS (refK t u (8 * y + x)).2 (refK t u (8 * y + x)).1 ⟨x, y⟩, true) := by
  rw [← Nat.add_assoc, refK, if_neg h]
  have e1 : ((8 * y + x : Nat) : Int) % 8 = x := by omega
  have e2 : ((8 * y + x : Nat) : Int) / 8 = y := by omega
  rw [e1, e2]

set_option maxRecDepth 4000 in
set_option maxHeartbeats 1000000 in
theorem refBox_d (t u : TL) : DFun Try.prog 27 [tD t, tD u] [] (.tup [b4D (boxT t u).1, .val (.bool (boxT t u).2)]) [] := by
  refine dcalls_go (N := 51) 0 (by kernel_rfl) Try.func27 rfl rfl rfl (by simp only [fr0, Nat.zero_add, Nat.reduceAdd]; exact rfl) rfl fun s0 hs0 => ?_
  refine dwp_seq ?_
  refine dwp_holes 3 (by simp only [holes, List.cons_append, List.nil_append]; exact rfl) ?_
  refine dwp_region ?_
  refine walk_w rfl rfl rfl (op_boxa 0 rfl (ev1 rfl) rfl) (by simp only [upd, List.set_cons_zero, List.set_cons_succ]; exact rfl) ?_
  refine walk_w rfl rfl rfl (op_boxa 1 rfl (ev1 rfl) rfl) (by simp only [upd, List.set_cons_zero, List.set_cons_succ]; exact rfl) ?_
  refine walk_w rfl rfl rfl (op_alloc 2 rfl zr49 rfl) (by simp only [upd, List.set_cons_zero, List.set_cons_succ]; exact rfl) ?_
  refine walk_r rfl rfl rfl (op_move (.inr rfl) (ev1 rfl)) ?_
  refine walk_nil ?_
  refine dwp_seq ?_
  refine dwp_holes 1 (by simp only [holes, List.cons_append, List.nil_append]; exact rfl) ?_
  refine dwp_region ?_
  refine walk_r rfl rfl rfl (op_build0 rfl fl49 zr49) ?_
  refine walk_w rfl rfl rfl (op_alloc 3 rfl zr49 rfl) (by simp only [upd, List.set_cons_zero, List.set_cons_succ]; exact rfl) ?_
  refine walk_s rfl rfl (op_stwa rfl tb49 (ev1 rfl) (ev1 rfl) rfl rfl rfl rfl) (by simp only [upd, List.set_cons_zero, List.set_cons_succ]; exact rfl) ?_
  refine walk_r rfl rfl rfl (op_move (.inr rfl) (ev1 rfl)) ?_
  refine walk_nil ?_
  refine dwp_seq ?_
  refine dwp_seq ?_
  refine dwp_region ?_
  refine walk_r rfl rfl rfl (op_move (.inl rfl) (ev1 rfl)) ?_
  refine walk_nil ?_
  refine dwp_block ?_
  refine dwp_loopS ⟨hs0, rfl⟩ (α := Nat) (fun y => [(7, .val (.bool (refK t u (8 * y)).2)), (11, .val (.int .i64 (y : Int)))]) [(2, _), (3, _), (4, _), (6, _)] (fun y => [(3, .flat 49 (b4 (refK t u (8 * y)).1))]) [_, _, _, .hole] (fun y => y ≤ 8) (fun y => 8 - y) 0 [0, 1, 2, 3] (by simp) rfl ⟨rfl, rfl, rfl, rfl, trivial⟩ ⟨rfl, rfl, trivial⟩ ⟨rfl, rfl, rfl, rfl, trivial⟩ ?_
  intro y hx
  simp only [upd, List.set_cons_zero, List.set_cons_succ, List.cons_append, List.nil_append]
  have hy := hx
  refine dwp_seq ?_
  refine dwp_region ?_
  refine walk_r rfl rfl rfl (op_lss rfl (ev1 rfl) (ev1 rfl)) ?_
  refine walk_nil ?_
  refine dwp_seq ?_
  refine dwp_cond rfl (fun c1 => ?_) (fun c1 => ?_)
  · try simp only [decide_eq_true_eq, decide_eq_false_iff_not, beq_iff_eq, bne_iff_ne, beq_eq_false_iff_ne, bne_eq_false_iff_eq, Bool.not_eq_true', Bool.not_eq_false', Bool.and_eq_true, Bool.or_eq_true, Bool.or_eq_false_iff, ne_eq, Decidable.not_not, Int.not_lt, Int.not_le] at c1
    refine dwp_skip ?_
    refine dwp_seq ?_
    refine dwp_block ?_
    refine dwp_seq ?_
    refine dwp_region ?_
    refine walk_r rfl rfl rfl (op_move (.inl rfl) (ev1 rfl)) ?_
    refine walk_r rfl rfl rfl (op_move (.inr rfl) (ev1 rfl)) ?_
    refine walk_nil ?_
    refine dwp_seq ?_
    refine dwp_region ?_
    refine walk_r rfl rfl rfl (op_move (.inl rfl) (ev1 rfl)) ?_
    refine walk_nil ?_
    refine dwp_block ?_
    refine dwp_loopS ⟨hs0, rfl⟩ (α := Nat) (fun x => [(7, .val (.bool (refK t u (8 * y + x)).2)), (14, .val (.int .i64 (x : Int)))]) [(2, _), (3, _), (4, _), (6, _), (8, _), (11, _)] (fun x => [(3, .flat 49 (b4 (refK t u (8 * y + x)).1))]) [_, _, _, .hole] (fun x => x ≤ 8) (fun x => 8 - x) 0 [0, 1, 2, 3] (by simp) rfl ⟨rfl, rfl, rfl, rfl, rfl, rfl, trivial⟩ ⟨rfl, rfl, trivial⟩ ⟨rfl, rfl, rfl, rfl, trivial⟩ ?_
    intro x hx
    simp only [upd, List.set_cons_zero, List.set_cons_succ, List.cons_append, List.nil_append]
    have hx8 := hx
    refine dwp_seq ?_
    refine dwp_region ?_
    refine walk_r rfl rfl rfl (op_lss rfl (ev1 rfl) (ev1 rfl)) ?_
    refine walk_nil ?_
    refine dwp_seq ?_
    refine dwp_cond rfl (fun c2 => ?_) (fun c2 => ?_)
    · try simp only [decide_eq_true_eq, decide_eq_false_iff_not, beq_iff_eq, bne_iff_ne, beq_eq_false_iff_ne, bne_eq_false_iff_eq, Bool.not_eq_true', Bool.not_eq_false', Bool.and_eq_true, Bool.or_eq_true, Bool.or_eq_false_iff, ne_eq, Decidable.not_not, Int.not_lt, Int.not_le] at c2
      refine dwp_skip ?_
      refine dwp_seq ?_
      refine dwp_block ?_
      refine dwp_seq ?_
      refine dwp_region ?_
      refine walk_r rfl rfl rfl (op_move (.inl rfl) (ev1 rfl)) ?_
      refine walk_r rfl rfl rfl (op_move (.inr rfl) (ev1 rfl)) ?_
      refine walk_nil ?_
      refine dwp_seq ?_
      refine dwp_seq ?_
      have hix : ixP ⟨(x : Int), (y : Int)⟩ = 8 * y + x := by unfold ixP; dsimp only; omega
      refine dwp_draw [([0], []), ([], []), ([], []), ([], []), ([1], []), ([], []), ([], []), ([], []), ([], [])] mixed (by kernel_rfl) ?_
      refine lex_r rfl rfl (op_ldw rfl tb25 (ev1 rfl) rfl (tc_len _)) ?_
      refine lex_r rfl rfl (op_move (.inl rfl) (ev1 rfl)) ?_
      refine lex_r rfl rfl (op_move (.inl rfl) (ev1 rfl)) ?_
      refine lex_r rfl rfl (dop_call [] [] [] rfl (ev1 rfl) (ec (ev1 rfl) (ec (ev1 rfl) (ec (ev1 rfl) en))) rfl rfl (refAt_d t x y (by rw [onP_iff]; dsimp only; omega)) rfl rfl rfl rfl rfl rfl) ?_
      refine lex_r rfl rfl (op_ldw rfl tb25 (ev1 rfl) rfl (tc_len _)) ?_
      refine lex_r rfl rfl (op_move (.inl rfl) (ev1 rfl)) ?_
      refine lex_r rfl rfl (op_move (.inl rfl) (ev1 rfl)) ?_
      refine lex_r rfl rfl (dop_call [] [] [] rfl (ev1 rfl) (ec (ev1 rfl) (ec (ev1 rfl) (ec (ev1 rfl) en))) rfl rfl (refAt_d u x y (by rw [onP_iff]; dsimp only; omega)) rfl rfl rfl rfl rfl rfl) ?_
      refine lex_r rfl rfl (op_eqr eq23 rfl gd23 tb23 (ev1 rfl) (ev1 rfl)) ?_
      refine lex_nil ?_
      refine dwp_cond rfl (fun hs => ?_) (fun hs => ?_)
      · refine dwp_exit ?_
        refine dwp_region ?_
        refine walk_r rfl rfl rfl (op_add' rfl (ev1 rfl) (ev1 rfl) (fun _ => IntWalk.i64_in _ (by omega))) ?_
        refine walk_r rfl rfl rfl (op_move (.inl rfl) (ev1 rfl)) ?_
        refine walk_nil ?_
        have e : refK t u (8 * y + (x + 1)) = refK t u (8 * y + x) := by exact refK_same (hix ▸ eqC_yes hs)
        refine ⟨x + 1, [0, 1, 2, 3], by omega, by simp only []; omega, rfl, ⟨by rw [e]; rfl, rfl, rfl, rfl, rfl, rfl, rfl, rfl, trivial⟩, ⟨rfl, rfl, rfl, by rw [e]; rfl, trivial⟩⟩
      · refine dwp_skip ?_
        refine dwp_seq ?_
        refine dwp_seq ?_
        refine dwp_region ?_
        refine walk_r rfl rfl rfl (op_move (.inl rfl) (ev1 rfl)) ?_
        refine walk_r rfl rfl rfl (op_not rfl (ev1 rfl)) ?_
        refine walk_nil ?_
        refine dwp_cond rfl (fun hf => ?_) (fun hf => ?_)
        · replace hf := bn_t hf
          refine dwp_region ?_
          refine walk_r rfl rfl rfl (op_move (.inl rfl) (ev1 rfl)) ?_
          refine walk_r rfl rfl rfl (op_move (.inl rfl) (ev1 rfl)) ?_
          refine walk_r rfl rfl rfl (op_move (.inl rfl) (ev1 rfl)) ?_
          refine walk_r rfl rfl rfl (op_move (.inl rfl) (ev1 rfl)) ?_
          refine walk_r rfl rfl rfl (op_build (ps := [(0, .tmp 28), (1, .tmp 29), (2, .tmp 30), (3, .tmp 31)]) rfl fl49 zr49 (vc (ev1 rfl) (vc (ev1 rfl) (vc (ev1 rfl) (vc (ev1 rfl) vn)))) rfl rfl) ?_
          refine walk_s rfl rfl (op_stwa rfl tb49 (ev1 rfl) (ev1 rfl) rfl rfl rfl rfl) (by simp only [upd, List.set_cons_zero, List.set_cons_succ]; exact rfl) ?_
          refine walk_r rfl rfl rfl (op_move (.inr rfl) (ev1 rfl)) ?_
          refine walk_nil ?_
          refine dwp_seq ?_
          refine dwp_seq ?_
          refine dwp_region ?_
          refine walk_r rfl rfl rfl (op_move (.inl rfl) (ev1 rfl)) ?_
          refine walk_r rfl rfl rfl (op_fa rfl fo49_0 (ev1 rfl)) ?_
          refine walk_r rfl rfl rfl (op_ldo rfl tb3 (ev1 rfl) rfl rfl) ?_
          refine walk_r rfl rfl rfl (op_lss rfl (ev1 rfl) (ev1 rfl)) ?_
          refine walk_nil ?_
          refine dwp_if_f rfl (by simp) ?_
          refine dwp_skip ?_
          refine dwp_seq ?_
          refine dwp_seq ?_
          refine dwp_region ?_
          refine walk_r rfl rfl rfl (op_move (.inl rfl) (ev1 rfl)) ?_
          refine walk_r rfl rfl rfl (op_fa rfl fo49_2 (ev1 rfl)) ?_
          refine walk_r rfl rfl rfl (op_ldo rfl tb3 (ev1 rfl) rfl rfl) ?_
          refine walk_r rfl rfl rfl (op_gtr rfl (ev1 rfl) (ev1 rfl)) ?_
          refine walk_nil ?_
          refine dwp_if_f rfl (by simp) ?_
          refine dwp_skip ?_
          refine dwp_region ?_
          refine walk_r rfl rfl rfl (op_move (.inl rfl) (ev1 rfl)) ?_
          refine walk_r rfl rfl rfl (op_fa rfl fo49_3 (ev1 rfl)) ?_
          refine walk_s rfl rfl (op_st1 rfl tb3 (ev1 rfl) (ev1 rfl) rfl (Nat.le_of_ble_eq_true rfl) rfl) (by simp only [upd, List.set_cons_zero, List.set_cons_succ]; exact rfl) ?_
          refine walk_nil ?_
          refine dwp_region ?_
          refine walk_r rfl rfl rfl (op_add' rfl (ev1 rfl) (ev1 rfl) (fun _ => IntWalk.i64_in _ (by omega))) ?_
          refine walk_r rfl rfl rfl (op_move (.inl rfl) (ev1 rfl)) ?_
          refine walk_nil ?_
          have e : refK t u (8 * y + (x + 1)) = (⟨x, y, x, y⟩, true) := by rw [refK_diff (by omega) (hix ▸ eqC_no hs), hf]; rfl
          refine ⟨x + 1, [0, 1, 2, 3], by omega, by simp only []; omega, rfl, ⟨by rw [e]; rfl, rfl, rfl, rfl, rfl, rfl, rfl, rfl, trivial⟩, ⟨rfl, rfl, rfl, by rw [e]; rfl, trivial⟩⟩
        · replace hf := bn_f hf
          refine dwp_skip ?_
          refine dwp_seq ?_
          refine dwp_seq ?_
          refine dwp_region ?_
          refine walk_r rfl rfl rfl (op_move (.inl rfl) (ev1 rfl)) ?_
          refine walk_r rfl rfl rfl (op_fa rfl fo49_0 (ev1 rfl)) ?_
          refine walk_r rfl rfl rfl (op_ldo rfl tb3 (ev1 rfl) rfl rfl) ?_
          refine walk_r rfl rfl rfl (op_lss rfl (ev1 rfl) (ev1 rfl)) ?_
          refine walk_nil ?_
          refine dwp_cond rfl (fun h1 => ?_) (fun h1 => ?_)
          · replace h1 := of_decide_eq_true h1
            refine dwp_region ?_
            refine walk_r rfl rfl rfl (op_move (.inl rfl) (ev1 rfl)) ?_
            refine walk_r rfl rfl rfl (op_fa rfl fo49_0 (ev1 rfl)) ?_
            refine walk_s rfl rfl (op_st1 rfl tb3 (ev1 rfl) (ev1 rfl) rfl (Nat.le_of_ble_eq_true rfl) rfl) (by simp only [upd, List.set_cons_zero, List.set_cons_succ]; exact rfl) ?_
            refine walk_nil ?_
            refine dwp_seq ?_
            refine dwp_seq ?_
            refine dwp_region ?_
            refine walk_r rfl rfl rfl (op_move (.inl rfl) (ev1 rfl)) ?_
            refine walk_r rfl rfl rfl (op_fa rfl fo49_2 (ev1 rfl)) ?_
            refine walk_r rfl rfl rfl (op_ldo rfl tb3 (ev1 rfl) rfl rfl) ?_
            refine walk_r rfl rfl rfl (op_gtr rfl (ev1 rfl) (ev1 rfl)) ?_
            refine walk_nil ?_
            refine dwp_cond rfl (fun h2 => ?_) (fun h2 => ?_)
            · replace h2 := of_decide_eq_true h2
              refine dwp_region ?_
              refine walk_r rfl rfl rfl (op_move (.inl rfl) (ev1 rfl)) ?_
              refine walk_r rfl rfl rfl (op_fa rfl fo49_2 (ev1 rfl)) ?_
              refine walk_s rfl rfl (op_st1 rfl tb3 (ev1 rfl) (ev1 rfl) rfl (Nat.le_of_ble_eq_true rfl) rfl) (by simp only [upd, List.set_cons_zero, List.set_cons_succ]; exact rfl) ?_
              refine walk_nil ?_
              refine dwp_region ?_
              refine walk_r rfl rfl rfl (op_move (.inl rfl) (ev1 rfl)) ?_
              refine walk_r rfl rfl rfl (op_fa rfl fo49_3 (ev1 rfl)) ?_
              refine walk_s rfl rfl (op_st1 rfl tb3 (ev1 rfl) (ev1 rfl) rfl (Nat.le_of_ble_eq_true rfl) rfl) (by simp only [upd, List.set_cons_zero, List.set_cons_succ]; exact rfl) ?_
              refine walk_nil ?_
              refine dwp_region ?_
              refine walk_r rfl rfl rfl (op_add' rfl (ev1 rfl) (ev1 rfl) (fun _ => IntWalk.i64_in _ (by omega))) ?_
              refine walk_r rfl rfl rfl (op_move (.inl rfl) (ev1 rfl)) ?_
              refine walk_nil ?_
              have e : refK t u (8 * y + (x + 1)) = (⟨x, (refK t u (8 * y + x)).1.y0, x, y⟩, true) := by rw [refK_diff (by omega) (hix ▸ eqC_no hs), hf]; simp only [refS, if_true]; rw [if_pos h1, if_pos h2]
              refine ⟨x + 1, [0, 1, 2, 3], by omega, by simp only []; omega, rfl, ⟨by rw [e]; exact congrArg (fun b => some (D.val (Value.bool b))) hf, rfl, rfl, rfl, rfl, rfl, rfl, rfl, trivial⟩, ⟨rfl, rfl, rfl, by rw [e]; rfl, trivial⟩⟩
            · replace h2 := of_decide_eq_false h2
              refine dwp_skip ?_
              refine dwp_region ?_
              refine walk_r rfl rfl rfl (op_move (.inl rfl) (ev1 rfl)) ?_
              refine walk_r rfl rfl rfl (op_fa rfl fo49_3 (ev1 rfl)) ?_
              refine walk_s rfl rfl (op_st1 rfl tb3 (ev1 rfl) (ev1 rfl) rfl (Nat.le_of_ble_eq_true rfl) rfl) (by simp only [upd, List.set_cons_zero, List.set_cons_succ]; exact rfl) ?_
              refine walk_nil ?_
              refine dwp_region ?_
              refine walk_r rfl rfl rfl (op_add' rfl (ev1 rfl) (ev1 rfl) (fun _ => IntWalk.i64_in _ (by omega))) ?_
              refine walk_r rfl rfl rfl (op_move (.inl rfl) (ev1 rfl)) ?_
              refine walk_nil ?_
              have e : refK t u (8 * y + (x + 1)) = (⟨x, (refK t u (8 * y + x)).1.y0, (refK t u (8 * y + x)).1.x1, y⟩, true) := by rw [refK_diff (by omega) (hix ▸ eqC_no hs), hf]; simp only [refS, if_true]; rw [if_pos h1, if_neg h2]
              refine ⟨x + 1, [0, 1, 2, 3], by omega, by simp only []; omega, rfl, ⟨by rw [e]; exact congrArg (fun b => some (D.val (Value.bool b))) hf, rfl, rfl, rfl, rfl, rfl, rfl, rfl, trivial⟩, ⟨rfl, rfl, rfl, by rw [e]; rfl, trivial⟩⟩
          · replace h1 := of_decide_eq_false h1
            refine dwp_skip ?_
            refine dwp_seq ?_
            refine dwp_seq ?_
            refine dwp_region ?_
            refine walk_r rfl rfl rfl (op_move (.inl rfl) (ev1 rfl)) ?_
            refine walk_r rfl rfl rfl (op_fa rfl fo49_2 (ev1 rfl)) ?_
            refine walk_r rfl rfl rfl (op_ldo rfl tb3 (ev1 rfl) rfl rfl) ?_
            refine walk_r rfl rfl rfl (op_gtr rfl (ev1 rfl) (ev1 rfl)) ?_
            refine walk_nil ?_
            refine dwp_cond rfl (fun h2 => ?_) (fun h2 => ?_)
            · replace h2 := of_decide_eq_true h2
              refine dwp_region ?_
              refine walk_r rfl rfl rfl (op_move (.inl rfl) (ev1 rfl)) ?_
              refine walk_r rfl rfl rfl (op_fa rfl fo49_2 (ev1 rfl)) ?_
              refine walk_s rfl rfl (op_st1 rfl tb3 (ev1 rfl) (ev1 rfl) rfl (Nat.le_of_ble_eq_true rfl) rfl) (by simp only [upd, List.set_cons_zero, List.set_cons_succ]; exact rfl) ?_
              refine walk_nil ?_
              refine dwp_region ?_
              refine walk_r rfl rfl rfl (op_move (.inl rfl) (ev1 rfl)) ?_
              refine walk_r rfl rfl rfl (op_fa rfl fo49_3 (ev1 rfl)) ?_
              refine walk_s rfl rfl (op_st1 rfl tb3 (ev1 rfl) (ev1 rfl) rfl (Nat.le_of_ble_eq_true rfl) rfl) (by simp only [upd, List.set_cons_zero, List.set_cons_succ]; exact rfl) ?_
              refine walk_nil ?_
              refine dwp_region ?_
              refine walk_r rfl rfl rfl (op_add' rfl (ev1 rfl) (ev1 rfl) (fun _ => IntWalk.i64_in _ (by omega))) ?_
              refine walk_r rfl rfl rfl (op_move (.inl rfl) (ev1 rfl)) ?_
              refine walk_nil ?_
              have e : refK t u (8 * y + (x + 1)) = (⟨(refK t u (8 * y + x)).1.x0, (refK t u (8 * y + x)).1.y0, x, y⟩, true) := by rw [refK_diff (by omega) (hix ▸ eqC_no hs), hf]; simp only [refS, if_true]; rw [if_neg h1, if_pos h2]
              refine ⟨x + 1, [0, 1, 2, 3], by omega, by simp only []; omega, rfl, ⟨by rw [e]; exact congrArg (fun b => some (D.val (Value.bool b))) hf, rfl, rfl, rfl, rfl, rfl, rfl, rfl, trivial⟩, ⟨rfl, rfl, rfl, by rw [e]; rfl, trivial⟩⟩
            · replace h2 := of_decide_eq_false h2
              refine dwp_skip ?_
              refine dwp_region ?_
              refine walk_r rfl rfl rfl (op_move (.inl rfl) (ev1 rfl)) ?_
              refine walk_r rfl rfl rfl (op_fa rfl fo49_3 (ev1 rfl)) ?_
              refine walk_s rfl rfl (op_st1 rfl tb3 (ev1 rfl) (ev1 rfl) rfl (Nat.le_of_ble_eq_true rfl) rfl) (by simp only [upd, List.set_cons_zero, List.set_cons_succ]; exact rfl) ?_
              refine walk_nil ?_
              refine dwp_region ?_
              refine walk_r rfl rfl rfl (op_add' rfl (ev1 rfl) (ev1 rfl) (fun _ => IntWalk.i64_in _ (by omega))) ?_
              refine walk_r rfl rfl rfl (op_move (.inl rfl) (ev1 rfl)) ?_
              refine walk_nil ?_
              have e : refK t u (8 * y + (x + 1)) = (⟨(refK t u (8 * y + x)).1.x0, (refK t u (8 * y + x)).1.y0, (refK t u (8 * y + x)).1.x1, y⟩, true) := by rw [refK_diff (by omega) (hix ▸ eqC_no hs), hf]; simp only [refS, if_true]; rw [if_neg h1, if_neg h2]
              refine ⟨x + 1, [0, 1, 2, 3], by omega, by simp only []; omega, rfl, ⟨by rw [e]; exact congrArg (fun b => some (D.val (Value.bool b))) hf, rfl, rfl, rfl, rfl, rfl, rfl, rfl, trivial⟩, ⟨rfl, rfl, rfl, by rw [e]; rfl, trivial⟩⟩
    · try simp only [decide_eq_true_eq, decide_eq_false_iff_not, beq_iff_eq, bne_iff_ne, beq_eq_false_iff_ne, bne_eq_false_iff_eq, Bool.not_eq_true', Bool.not_eq_false', Bool.and_eq_true, Bool.or_eq_true, Bool.or_eq_false_iff, ne_eq, Decidable.not_not, Int.not_lt, Int.not_le] at c2
      refine dwp_exit ?_
      refine dwp_region ?_
      refine walk_r rfl rfl rfl (op_add' rfl (ev1 rfl) (ev1 rfl) (fun _ => IntWalk.i64_in _ (by omega))) ?_
      refine walk_r rfl rfl rfl (op_move (.inl rfl) (ev1 rfl)) ?_
      refine walk_nil ?_
      obtain rfl : x = 8 := by omega
      refine ⟨y + 1, [0, 1, 2, 3], by omega, by simp only []; omega, rfl, ⟨by rw [show 8 * (y + 1) = 8 * y + 8 by omega]; rfl, rfl, rfl, rfl, rfl, rfl, trivial⟩, ⟨rfl, rfl, rfl, by rw [show 8 * (y + 1) = 8 * y + 8 by omega]; rfl, trivial⟩⟩
  · try simp only [decide_eq_true_eq, decide_eq_false_iff_not, beq_iff_eq, bne_iff_ne, beq_eq_false_iff_ne, bne_eq_false_iff_eq, Bool.not_eq_true', Bool.not_eq_false', Bool.and_eq_true, Bool.or_eq_true, Bool.or_eq_false_iff, ne_eq, Decidable.not_not, Int.not_lt, Int.not_le] at c1
    refine dwp_exit ?_
    refine dwp_seq ?_
    refine dwp_region ?_
    refine walk_r rfl rfl rfl (op_ldw rfl tb49 (ev1 rfl) rfl rfl) ?_
    refine walk_r rfl rfl rfl (op_move (.inl rfl) (ev1 rfl)) ?_
    refine walk_s rfl rfl (op_stwa rfl tb49 (ev1 rfl) (ev1 rfl) rfl rfl rfl rfl) (by simp only [upd, List.set_cons_zero, List.set_cons_succ]; exact rfl) ?_
    refine walk_r rfl rfl rfl (op_move (.inr rfl) (ev1 rfl)) ?_
    refine walk_nil ?_
    refine dwp_ret ?_
    refine kend0 (rs2 rfl (rv_w tb49 rfl rfl rfl) (rv_t rfl)) rfl ?_
    obtain rfl : y = 8 := by omega
    rw [← refBox_eq]
    rfl

end Go.Proofs.Ythagnobjbpmneaa
