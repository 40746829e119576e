/- the law of torn records, walked -/
import Derived.Test.YtfdmfklofgmpfaaGreatJk
namespace Go.Proofs.YtfdmfklofgmpfaaGreat
set_option linter.unusedVariables false
set_option linter.unusedSimpArgs false
open Go.RowKit

theorem whole_step : ∀ {R : List (List Nat)} {c k : Nat}, k < R.length → k ≤ whole R c → (offJ (R.take k) + (R.getD k []).length + 8 ≤ c ↔ k < whole R c)
  | [], c, k, h, _ => by simp at h
  | r :: R, c, 0, h, _ => by
    unfold whole
    simp only [List.take_zero, offJ, List.getD_cons_zero, Nat.zero_add]
    split
    · exact ⟨fun _ => by omega, fun _ => by assumption⟩
    · exact ⟨fun h => absurd h (by assumption), fun h => by omega⟩
  | r :: R, c, k + 1, h, hk => by
    unfold whole at hk ⊢
    split at hk
    · rename_i h1
      rw [if_pos h1]
      have ih := whole_step (R := R) (c := c - (r.length + 8)) (k := k) (by simpa using h) (by omega)
      rw [List.take_succ_cons, offJ, List.getD_cons_succ]
      constructor
      · intro h2
        have := ih.1 (by omega)
        omega
      · intro h2
        have := ih.2 (by omega)
        omega
    · omega
theorem first_bad : ∀ {R : List (List Nat)} {n : Nat}, (¬ ∀ r ∈ R, r.length ≤ n) → ∃ j, j < R.length ∧ (∀ k, k < j → (R.getD k []).length ≤ n) ∧ n < (R.getD j []).length
  | [], n, h => absurd (fun r hr => by simp at hr) h
  | r :: R, n, h => by
    by_cases h1 : r.length ≤ n
    · have h2 : ¬ ∀ q ∈ R, q.length ≤ n := fun h3 => h fun q hq => by
        rcases List.mem_cons.1 hq with rfl | hq
        · exact h1
        · exact h3 q hq
      obtain ⟨j, a1, a2, a3⟩ := first_bad h2
      refine ⟨j + 1, by simpa using a1, fun k hk => ?_, by rw [List.getD_cons_succ]; exact a3⟩
      cases k with
      | zero => exact h1
      | succ k => rw [List.getD_cons_succ]; exact a2 k (by omega)
    · exact ⟨0, by simp, fun k hk => absurd hk (Nat.not_lt_zero k), by rw [List.getD_cons_zero]; omega⟩
theorem placeJ (p : Int) {n : Nat} (h : 0 < n) : ∃ a : Nat, a < n ∧ IntKind.u64.wrap p % (n : Int) = (a : Int) := by
  have h1 := Int.emod_nonneg (IntKind.u64.wrap p) (show (n : Int) ≠ 0 by omega)
  have h2 := Int.emod_lt_of_pos (IntKind.u64.wrap p) (show (0 : Int) < (n : Int) by omega)
  exact ⟨(IntKind.u64.wrap p % (n : Int)).toNat, by omega, by omega⟩
theorem wrap_nn (p : Int) : 0 ≤ IntKind.u64.wrap p := by rw [IntKind.wrap_u64]; omega
theorem scan_join {R : List (List Nat)} (hr : ∀ r ∈ R, isN r) (hl : ∀ r ∈ R, r.length ≤ 65536) (hn : R.length ≤ 6) : DFun Tryz.prog 16 [rN (joinJ R)] [] (.tup [.slm 1 R.length (R.flatMap fun p => [rN p]), .val (.int .i64 ((joinJ R).length : Nat))]) [] := by
  have h1 := join_len hl
  have h := scan_f (joinJ R) (joinJ_n hr) (by omega)
  rw [recs_join hl, ← joinJ_len] at h
  exact h
theorem scan_torn {R : List (List Nat)} {c : Nat} (hr : ∀ r ∈ R, isN r) (hl : ∀ r ∈ R, r.length ≤ 65536) (hn : R.length ≤ 6) (hc : c ≤ (joinJ R).length) : DFun Tryz.prog 16 [rN ((joinJ R).take c)] [] (.tup [.slm 1 (R.take (whole R c)).length ((R.take (whole R c)).flatMap fun p => [rN p]), .val (.int .i64 (offJ (R.take (whole R c)) : Nat))]) [] := by
  have h1 := join_len hl
  have h := scan_f ((joinJ R).take c) (fun x hx => joinJ_n hr x (List.mem_of_mem_take hx)) (by rw [List.length_take]; omega)
  rw [(torn hl hc).2.1] at h
  exact h
theorem why_torn {R : List (List Nat)} {c : Nat} (hr : ∀ r ∈ R, isN r) (hl : ∀ r ∈ R, r.length ≤ 65536) (hn : R.length ≤ 6) (hc : c ≤ (joinJ R).length) : DFun Tryz.prog 18 [rN ((joinJ R).take c)] [] (.tup [.val (.int .i64 (offJ (R.take (whole R c)) : Nat)), .val (.int .i64 (if offJ (R.take (whole R c)) = c then 0 else 110))]) [] := by
  have h1 := join_len hl
  have h := why_f ((joinJ R).take c) (fun x hx => joinJ_n hr x (List.mem_of_mem_take hx)) (by rw [List.length_take]; omega)
  have hlc : ((joinJ R).take c).length = c := by rw [List.length_take]; omega
  obtain ⟨a1, a2, a3, a4⟩ := torn hl hc
  have e : (if offJ (recs ((joinJ R).take c)) = ((joinJ R).take c).length then 0 else errJ (restJ ((joinJ R).take c) (recs ((joinJ R).take c)).length)) = (if offJ (R.take (whole R c)) = c then (0 : Int) else 110) := by
    rw [hlc, a2]
    by_cases hz : offJ (R.take (whole R c)) = c
    · rw [if_pos hz, if_pos hz]
    · rw [if_neg hz, if_neg hz]
      unfold restJ
      rw [a2, List.take_length]
      exact a4 hz
  rw [e, a2] at h
  exact h

theorem torn_fin (o : Nat) {c m : Nat} (h : min c m = c) : (((if o = c then (0 : Int) else 110) == 0) = ((o : Int) == ((min c m : Nat) : Int))) ∧ (o = c ∨ ¬ o = c) := by
  rw [h]
  refine ⟨?_, Classical.em _⟩
  by_cases hz : o = c
  · rw [if_pos hz, hz]; simp
  · have : ¬ (o : Int) = c := by omega
    rw [if_neg hz]; simp [this]

end Go.Proofs.YtfdmfklofgmpfaaGreat
