/- boxes: how they stand to each other -/
import Derived.Test.YthagnobjbpmneaaTn
import Derived.Test.YthagnobjbpmneaaTo
namespace Go.Proofs.Ythagnobjbpmneaa
set_option linter.unusedVariables false
set_option linter.unusedSimpArgs false
open Go.RowKit


def inB (b : B4) (x y : Int) : Bool := ((decide (x ≥ b.x0) && decide (x ≤ b.x1)) && decide (y ≥ b.y0)) && decide (y ≤ b.y1)
theorem box_sym (t u : TL) : ∀ k, boxK u t k = boxK t u k
  | 0 => rfl
  | k + 1 => by
    rw [boxK, boxK, box_sym t u k, stepC, stepC]
    by_cases e : t.get k = u.get k
    · rw [if_pos e, if_pos e.symm]
    · rw [if_neg e, if_neg (Ne.symm e)]
theorem box_in (t u : TL) : ∀ k j : Nat, j < k → t.get j ≠ u.get j → ((boxK t u k).x0 ≤ (j : Int) % 8 ∧ (j : Int) % 8 ≤ (boxK t u k).x1) ∧ ((boxK t u k).y0 ≤ (j : Int) / 8 ∧ (j : Int) / 8 ≤ (boxK t u k).y1)
  | 0, j, h, _ => by omega
  | k + 1, j, h, hd => by
    rw [boxK, stepC]
    by_cases q : j = k
    · subst q
      rw [if_neg hd]
      simp only [mmB]
      omega
    · have := box_in t u k j (by omega) hd
      split
      · exact this
      · simp only [mmB]
        omega
theorem out_same {t u : TL} {x y : Nat} (hx : x < 8) (hy : y < 8) (h : inB (boxK t u 64) x y = false) : t.get (8 * y + x) = u.get (8 * y + x) := by
  refine Classical.byContradiction fun hd => ?_
  have := box_in t u 64 (8 * y + x) (by omega) hd
  have e1 : ((8 * y + x : Nat) : Int) % 8 = x := by omega
  have e2 : ((8 * y + x : Nat) : Int) / 8 = y := by omega
  rw [e1, e2] at this
  have h2 : inB (boxK t u 64) x y = true := by
    simp only [inB, Bool.and_eq_true, decide_eq_true_eq]
    omega
  rw [h2] at h
  cases h
def workK (t u : TL) (b : B4) : Nat → TL
  | 0 => t
  | k + 1 => if inB b ((k : Int) % 8) ((k : Int) / 8) = true then putT (workK t u b k) ⟨(k : Int) % 8, (k : Int) / 8⟩ (u.get k) else workK t u b k
theorem workK_get (t u : TL) (b : B4) : ∀ k, k ≤ 64 → ∀ j, j < 64 → (workK t u b k).get j = if j < k ∧ inB b ((j : Int) % 8) ((j : Int) / 8) = true then u.get j else t.get j
  | 0, _, j, _ => by rw [if_neg (by omega)]; rfl
  | k + 1, hk, j, hj => by
    have ih := workK_get t u b k (by omega) j hj
    rw [workK]
    by_cases hb : inB b ((k : Int) % 8) ((k : Int) / 8) = true
    · have hon : onP ⟨(k : Int) % 8, (k : Int) / 8⟩ = true := by rw [onP_iff]; dsimp only; omega
      have hix : ixP ⟨(k : Int) % 8, (k : Int) / 8⟩ = k := by unfold ixP; dsimp only; omega
      rw [if_pos hb, putT, if_pos hon, hix, get_set (by omega), ih]
      by_cases e : k = j
      · subst e
        rw [if_pos rfl, if_pos ⟨by omega, hb⟩]
      · rw [if_neg e]
        by_cases q : j < k ∧ inB b ((j : Int) % 8) ((j : Int) / 8) = true
        · rw [if_pos q, if_pos ⟨by omega, q.2⟩]
        · rw [if_neg q, if_neg fun h => q ⟨by omega, h.2⟩]
    · rw [if_neg hb, ih]
      by_cases q : j < k ∧ inB b ((j : Int) % 8) ((j : Int) / 8) = true
      · rw [if_pos q, if_pos ⟨by omega, q.2⟩]
      · rw [if_neg q, if_neg fun h => q ⟨by
          by_cases e : j = k
          · subst e; exact absurd h.2 hb
          · omega, h.2⟩]
theorem work_end (t u : TL) : workK t u (boxK t u 64) 64 = u := TL.ext_get fun j hj => by
  rw [workK_get t u _ 64 (by omega) j hj]
  split
  · rfl
  · rename_i h
    have e := out_same (t := t) (u := u) (x := j % 8) (y := j / 8) (by omega) (by omega) (by
      cases h2 : inB (boxK t u 64) ((j % 8 : Nat) : Int) ((j / 8 : Nat) : Int) with
      | false => rfl
      | true => exact absurd ⟨hj, by simpa using h2⟩ h)
    rwa [show 8 * (j / 8) + j % 8 = j by omega] at e
theorem work_in {t u : TL} {b : B4} {x y : Nat} (hx : x < 8) (hy : y < 8) (h : inB b x y = true) : workK t u b (8 * y + (x + 1)) = (withT (workK t u b (8 * y + x)) (u.get (8 * y + x)) [⟨x, y⟩]).1 := by
  have e1 : ((8 * y + x : Nat) : Int) % 8 = x := by omega
  have e2 : ((8 * y + x : Nat) : Int) / 8 = y := by omega
  have hon : onP ⟨(x : Int), (y : Int)⟩ = true := by rw [onP_iff]; dsimp only; omega
  rw [← Nat.add_assoc, workK, e1, e2, if_pos h, withT, if_pos (by simp [hon])]
  rfl
theorem with_one {t : TL} {c : C4} {x y : Nat} (hx : x < 8) (hy : y < 8) : (withT t c [⟨x, y⟩]).2 = 0 := by
  have hon : onP ⟨(x : Int), (y : Int)⟩ = true := by rw [onP_iff]; dsimp only; omega
  rw [withT, if_pos (by simp [hon])]
theorem work_out {t u : TL} {b : B4} {x y : Nat} (hx : x < 8) (h : inB b x y = false) : workK t u b (8 * y + (x + 1)) = workK t u b (8 * y + x) := by
  have e1 : ((8 * y + x : Nat) : Int) % 8 = x := by omega
  have e2 : ((8 * y + x : Nat) : Int) / 8 = y := by omega
  rw [← Nat.add_assoc, workK, e1, e2, if_neg (by rw [h]; simp)]
theorem boxT_sym {t u : TL} : boxT u t = boxT t u := by
  unfold boxT
  by_cases e : t = u
  · rw [if_pos e, if_pos e.symm]
  · rw [if_neg e, if_neg (Ne.symm e), box_sym]
theorem boxT_no {t u : TL} (h : (boxT t u).2 = false) : t = u ∧ (boxT t u).1 = zB := by
  unfold boxT at h ⊢
  by_cases e : t = u
  · exact ⟨e, by rw [if_pos e]⟩
  · rw [if_neg e] at h; cases h
theorem boxT_yes {t u : TL} (h : (boxT t u).2 = true) : (boxT t u).1 = boxK t u 64 := by
  unfold boxT at h ⊢
  by_cases e : t = u
  · rw [if_pos e] at h; cases h
  · rw [if_neg e]
theorem eqC_same {a b : C4} (h : a = b) : eqC a b = true := by rw [eqC_iff, h]; simp
theorem nand_t : ∀ e f : Bool, e = true → (!e && f) = false := by decide
theorem nand_f : ∀ e f : Bool, f = true → (!e && !f) = false := by decide

theorem at_xy (t : TL) {x y : Nat} (hx : x < 8) (hy : y < 8) : DFun Try.prog 11 [tD t, .val (.int .i64 (x : Int)), .val (.int .i64 (y : Int))] [] (.tup [c4D (t.get (8 * y + x)), .val (.int .i64 0)]) [] := by
  have hon : onP ⟨(x : Int), (y : Int)⟩ = true := by rw [onP_iff]; dsimp only; omega
  have hix : ixP ⟨(x : Int), (y : Int)⟩ = 8 * y + x := by unfold ixP; dsimp only; omega
  have h := at_d t x y
  rw [hon, hix, if_pos rfl] at h
  exact h

end Go.Proofs.Ythagnobjbpmneaa
