/- sums of colours, runs, shifts there and back -/
import Derived.Test.YthagnobjbpmneaaTr
namespace Go.Proofs.Ythagnobjbpmneaa
set_option linter.unusedVariables false
set_option linter.unusedSimpArgs false
open Go.RowKit

theorem nd_count {s : List C4} (h : s.Nodup) (a : C4) : s.count a ≤ 1 := by
  induction s with
  | nil => simp
  | cons b s ih =>
    obtain ⟨h1, h2⟩ := List.nodup_cons.1 h
    rw [List.count_cons]
    by_cases e : b = a
    · subst e
      rw [List.count_eq_zero_of_not_mem h1]; simp
    · simp [e, ih h2]

theorem sum_split (l : List C4) : ∀ s : List C4, s.Nodup → (∀ c, c ∈ l → c ∈ s) → (s.map fun c => l.count c).sum = l.length := by
  intro s hs hl
  induction l with
  | nil =>
    have h0 : ∀ s : List C4, (s.map fun _ => (0 : Nat)).sum = 0 := fun s => by
      induction s with
      | nil => rfl
      | cons a s ih => rw [List.map_cons, List.sum_cons, ih]
    exact h0 s
  | cons a l ih =>
    have h1 := ih fun c hc => hl c (List.mem_cons_of_mem _ hc)
    have key : ∀ s : List C4, (s.map fun c => (a :: l).count c).sum = (s.map fun c => l.count c).sum + s.count a := fun s => by
      induction s with
      | nil => rfl
      | cons b s ih =>
        rw [List.map_cons, List.map_cons, List.sum_cons, List.sum_cons, ih, List.count_cons, List.count_cons]
        by_cases e : a = b
        · subst e; simp; omega
        · have e2 : ¬ b = a := fun q => e q.symm
          simp [e, e2]; omega
    have h2 := key s
    have h3 : s.count a = 1 := by
      have h4 := List.count_pos_iff.2 (hl a (List.mem_cons_self ..))
      have h5 := nd_count hs a
      omega
    rw [h2, h1, h3]; rfl
def sumK (t : TL) (k : Nat) : Int := (((colsL t.l).take k).map fun c => countT t c).sum
theorem sumK_succ {t : TL} {k : Nat} (h : k < (colsL t.l).length) : sumK t (k + 1) = sumK t k + countT t (colsL t.l)[k] := by
  unfold sumK
  rw [List.take_succ_eq_append_getElem h, List.map_append, List.sum_append]
  simp
theorem cast_sum (f : C4 → Nat) : ∀ s : List C4, (s.map fun c => (f c : Int)).sum = ((s.map f).sum : Nat)
  | [] => rfl
  | a :: s => by simp [cast_sum f s]
theorem sumK_end (t : TL) {k : Nat} (h : (colsL t.l).length ≤ k) : sumK t k = 64 := by
  unfold sumK
  rw [List.take_of_length_le h]
  have e : (colsL t.l).map (fun c => countT t c) = (colsL t.l).map fun c => ((t.l.count c : Nat) : Int) := List.map_congr_left fun c _ => count_eq t c
  rw [e, cast_sum, sum_split t.l _ (cols_nd _) (fun c hc => cols_mem.2 hc), t.h]
  rfl
theorem sumK_bd (t : TL) : ∀ k, k ≤ (colsL t.l).length → 0 ≤ sumK t k ∧ sumK t k ≤ 64 := by
  intro k hk
  have mono : ∀ d, k + d ≤ (colsL t.l).length → sumK t k ≤ sumK t (k + d) := by
    intro d
    induction d with
    | zero => intro _; exact Int.le_refl _
    | succ d ih =>
      intro h
      have h1 := ih (by omega)
      rw [← Nat.add_assoc, sumK_succ (by omega)]
      have := count_eq t (colsL t.l)[k + d]
      omega
  have h1 := mono ((colsL t.l).length - k) (by omega)
  rw [show k + ((colsL t.l).length - k) = (colsL t.l).length by omega, sumK_end t (Nat.le_refl _)] at h1
  refine ⟨?_, h1⟩
  clear mono h1
  induction k with
  | zero => exact Int.le_refl _
  | succ k ih =>
    rw [sumK_succ (by omega)]
    have := ih (by omega)
    have := count_eq t (colsL t.l)[k]
    omega
theorem nd_take {l : List C4} (h : l.Nodup) {k : Nat} (hk : k < l.length) : l[k] ∉ l.take k := by
  intro hm
  obtain ⟨i, hi, he⟩ := List.mem_take_iff_getElem.1 hm
  exact List.pairwise_iff_getElem.1 h i k (by omega) hk (by omega) he
def runF (t : TL) : Nat → C4 → Bool := fun i x => decide (i = 0) || decide (x ≠ t.get (i - 1))
theorem runs_ge (t : TL) : ∀ k, k ≤ 64 → ((colsL (t.l.take k)).length : Int) + cnt (runF t) (t.l.drop k) k ≤ runsT t
  | 0, _ => by
    show ((0 : Nat) : Int) + cnt (runF t) (t.l.drop 0) 0 ≤ cnt (runF t) t.l 0
    rw [List.drop_zero]; omega
  | k + 1, hk => by
    have ih := runs_ge t k (by omega)
    have hkl : k < t.l.length := by rw [t.h]; omega
    rw [cnt_drop hkl] at ih
    rw [colsL_take hkl]
    split
    · split at ih <;> omega
    · rename_i hn
      rw [List.length_append]
      have hr : runF t k t.l[k] = true := by
        unfold runF
        by_cases h0 : k = 0
        · simp [h0]
        · rw [decide_eq_false h0, Bool.false_or, decide_eq_true_eq]
          intro e
          refine hn (cols_mem.2 ?_)
          rw [e]
          have hk1 : k - 1 < t.l.length := by omega
          refine List.mem_take_iff_getElem.2 ⟨k - 1, by omega, ?_⟩
          unfold TL.get
          rw [getD_at hk1]
      rw [if_pos hr] at ih
      simp
      omega
theorem runs_cols (t : TL) : ((colsL t.l).length : Int) ≤ runsT t := by
  have := runs_ge t 64 (by omega)
  rw [List.take_of_length_le (by rw [t.h]; omega), cnt_end (by rw [t.h]; omega)] at this
  omega
theorem cols_pos (t : TL) : 1 ≤ (colsL t.l).length := by
  have h0 : 0 < t.l.length := by rw [t.h]; omega
  have : t.l[0] ∈ colsL t.l := cols_mem.2 (List.getElem_mem _)
  exact List.length_pos_of_mem this
theorem runs_one {t : TL} (h : (colsL t.l).length = 1) : runsT t = 1 := by
  have all : ∀ i, i < 64 → t.get i = t.get 0 := by
    intro i hi
    obtain ⟨c, hc⟩ := List.length_eq_one_iff.1 h
    have key : ∀ j, j < 64 → t.get j = c := fun j hj => by
      have hjl : j < t.l.length := by rw [t.h]; exact hj
      have : t.l[j] ∈ colsL t.l := cols_mem.2 (List.getElem_mem _)
      rw [hc] at this
      unfold TL.get
      rw [getD_at hjl]
      simpa using this
    rw [key i hi, key 0 (by omega)]
  have key : ∀ d k, k + d = 64 → 1 ≤ k → cnt (runF t) (t.l.drop k) k = 0 := by
    intro d
    induction d with
    | zero => intro k hk _; exact cnt_end (by rw [t.h]; omega)
    | succ d ih =>
      intro k hk h1
      have hkl : k < t.l.length := by rw [t.h]; omega
      rw [cnt_drop hkl, ih (k + 1) (by omega) (by omega), if_neg]
      · rfl
      · unfold runF
        rw [decide_eq_false (by omega), Bool.false_or, decide_eq_true_eq, Decidable.not_not]
        have e1 := all k (by omega)
        have e2 := all (k - 1) (by omega)
        rw [e2, ← e1]
        unfold TL.get
        rw [getD_at hkl]
  have h0 : 0 < t.l.length := by rw [t.h]; omega
  have e := cnt_drop (f := runF t) h0
  rw [List.drop_zero] at e
  show cnt (runF t) t.l 0 = 1
  rw [e, key 63 1 rfl (by omega)]
  rfl
theorem runs_iff (t : TL) : (runsT t = 1) ↔ ((colsL t.l).length = 1) := by
  have h1 := runs_cols t
  have h2 := cols_pos t
  exact ⟨fun h => by omega, runs_one⟩
theorem mv_shift (t o : TL) (a b : Int) : ∀ n, n ≤ 64 → ∀ x y : Nat, x < 8 → y < 8 → (mvT t (shiftP a b) o n).get (8 * y + x) =
    if (0 ≤ (x : Int) - a ∧ (x : Int) - a < 8) ∧ (0 ≤ (y : Int) - b ∧ (y : Int) - b < 8) ∧ 8 * ((y : Int) - b) + ((x : Int) - a) < n then t.get (8 * ((y : Int) - b) + ((x : Int) - a)).toNat else o.get (8 * y + x)
  | 0, _, x, y, hx, hy => by rw [if_neg (by omega)]; rfl
  | n + 1, hn, x, y, hx, hy => by
    have ih := mv_shift t o a b n (by omega) x y hx hy
    rw [mvT, putT]
    by_cases hon : onP (shiftP a b ⟨(n : Int) % 8, (n : Int) / 8⟩) = true
    · rw [if_pos hon]
      have h2 := ixP_eq hon
      have h3 := onP_iff.1 hon
      simp only [shiftP] at h2 h3
      rw [get_set (by exact h2.2), ih]
      by_cases e : ixP (shiftP a b ⟨(n : Int) % 8, (n : Int) / 8⟩) = 8 * y + x
      · rw [if_pos e]
        have e2 : ((n : Int) / 8 + b) * 8 + ((n : Int) % 8 + a) = ((8 * y + x : Nat) : Int) := by rw [← e]; exact h2.1
        have e3 : (x : Int) = (n : Int) % 8 + a := by omega
        have e4 : (y : Int) = (n : Int) / 8 + b := by omega
        rw [if_pos (by omega)]
        congr 1
        omega
      · rw [if_neg e]
        have e1 : ¬ ((x : Int) = (n : Int) % 8 + a ∧ (y : Int) = (n : Int) / 8 + b) := by
          intro q
          apply e
          simp only [shiftP]
          have := h2.1
          omega
        by_cases q : (0 ≤ (x : Int) - a ∧ (x : Int) - a < 8) ∧ (0 ≤ (y : Int) - b ∧ (y : Int) - b < 8) ∧ 8 * ((y : Int) - b) + ((x : Int) - a) < n
        · rw [if_pos q, if_pos (by omega)]
        · rw [if_neg q, if_neg (by omega)]
    · rw [if_neg hon, ih]
      have e1 : ¬ ((x : Int) = (n : Int) % 8 + a ∧ (y : Int) = (n : Int) / 8 + b) := by
        intro q
        apply hon
        rw [onP_iff]
        simp only [shiftP]
        omega
      by_cases q : (0 ≤ (x : Int) - a ∧ (x : Int) - a < 8) ∧ (0 ≤ (y : Int) - b ∧ (y : Int) - b < 8) ∧ 8 * ((y : Int) - b) + ((x : Int) - a) < n
      · rw [if_pos q, if_pos (by omega)]
      · rw [if_neg q, if_neg (by omega)]
theorem nT_get (c : C4) {j : Nat} (h : j < 64) : (nT c).get j = c := by
  show (List.replicate 64 c).getD j zC4 = c
  rw [List.getD_eq_getElem?_getD, List.getElem?_replicate, if_pos h]
  rfl
theorem shift_get (t : TL) (a b : Int) (c : C4) {x y : Nat} (hx : x < 8) (hy : y < 8) : (shiftT t a b c).get (8 * y + x) = if (0 ≤ (x : Int) - a ∧ (x : Int) - a < 8) ∧ (0 ≤ (y : Int) - b ∧ (y : Int) - b < 8) then t.get (8 * ((y : Int) - b) + ((x : Int) - a)).toNat else c := by
  unfold shiftT
  by_cases h : (-7 ≤ a ∧ a ≤ 7) ∧ (-7 ≤ b ∧ b ≤ 7)
  · rw [if_pos h, mv_shift t _ a b 64 (by omega) x y hx hy, nT_get c (by omega)]
    by_cases q : (0 ≤ (x : Int) - a ∧ (x : Int) - a < 8) ∧ (0 ≤ (y : Int) - b ∧ (y : Int) - b < 8)
    · rw [if_pos q, if_pos (by omega)]
    · rw [if_neg q, if_neg (by omega)]
  · rw [if_neg h, nT_get c (by omega), if_neg (by omega)]
def onB (a b x y : Int) : Bool := ((decide (x + a ≥ 0) && decide (x + a < 8)) && decide (y + b ≥ 0)) && decide (y + b < 8)
theorem shift_back (t : TL) (a b : Int) {x y : Nat} (hx : x < 8) (hy : y < 8) : (shiftT (shiftT t a b zC4) (-a) (-b) zC4).get (8 * y + x) = if onB a b x y = true then t.get (8 * y + x) else zC4 := by
  rw [shift_get _ _ _ _ hx hy]
  have hiff : onB a b x y = true ↔ ((0 ≤ (x : Int) - -a ∧ (x : Int) - -a < 8) ∧ (0 ≤ (y : Int) - -b ∧ (y : Int) - -b < 8)) := by
    simp only [onB, Bool.and_eq_true, decide_eq_true_eq]
    omega
  by_cases q : onB a b x y = true
  · rw [if_pos q, if_pos (hiff.1 q)]
    obtain ⟨q1, q2⟩ := hiff.1 q
    obtain ⟨x2, hx2⟩ : ∃ x2 : Nat, (x2 : Int) = x + a := ⟨(x + a).toNat, by omega⟩
    obtain ⟨y2, hy2⟩ : ∃ y2 : Nat, (y2 : Int) = y + b := ⟨(y + b).toNat, by omega⟩
    rw [show (8 * ((y : Int) - -b) + ((x : Int) - -a)).toNat = 8 * y2 + x2 by omega, shift_get t a b zC4 (by omega) (by omega), if_pos (by omega)]
    congr 1
    omega
  · rw [if_neg q, if_neg (fun h => q (hiff.2 h))]
theorem tmod9 (q : Int) : -9 < q.tmod 9 ∧ q.tmod 9 < 9 := by
  rcases Int.le_total 0 q with h | h
  · rw [Int.tmod_eq_emod_of_nonneg h]; omega
  · have e : q.tmod 9 = -((-q).tmod 9) := by rw [Int.neg_tmod]; omega
    rw [e, Int.tmod_eq_emod_of_nonneg (by omega)]; omega
theorem sums_pt (A B E F G : Bool) (hA : A = false) (hB : B = false) (h1 : E = true → F = true) (h2 : E = false → G = true) : (((A || B) || (E && !F)) || (!E && !G)) = false := by
  subst hA hB
  cases E
  · rw [h2 rfl]; simp
  · rw [h1 rfl]; simp
theorem runs_beq (t : TL) : (runsT t == 1) = (((colsL t.l).length : Int) == 1) := by
  have := runs_iff t
  rw [Bool.eq_iff_iff, beq_iff_eq, beq_iff_eq, this]
  omega
theorem sumK_0 (t : TL) : 0 = sumK t 0 := rfl

end Go.Proofs.Ythagnobjbpmneaa
