/- walks: what one vector lacks of another one, and how many -/
import Derived.Test.YtjpgabpicfcapaaV9
import Derived.IntWalk
import Derived.WalkMore
namespace Go.Proofs.Ytjpgabpicfcapaa
open Go.RowKit Go.Shelf

theorem lacks_no (a b : V) (hm : (a.may && b.may) = false) (w : World) : Calls Try.prog 28 #[vec a, vec b] w fun e w' => e = .returned (.slice none 0 0) ∧ Below w.heap.size w w' := by
  have hrow : rowVec (((w.alloc (.cells (vecA a) 24)).alloc (.cells (vecA b) 24)).alloc (.cells (twoA a b) 24)) (some ⟨w.heap.size + 1 + 1, 0, none⟩) [a, b] := row_two a b _ _ (by simp)
  have HR := Lib.hid hrow
  have HM := Lib.hid hm
  clear hrow hm
  go_enter Try.func28, Try.ntmps28
  go_wp2_with fail
  try (go_step3; go_wp2_with fail)
  refine (are_two a b (w.heap.size + 1 + 1) _ HR.out).mono ?_
  rintro e w1 ⟨rfl, hB⟩
  rw [HM.out]
  have b0 := hB.size
  simp only [World.size_alloc] at b0
  have hb1 : Below w.heap.size w w1 := ((((Below.refl _ _).alloc (Nat.le_refl _) _).alloc (by simp) _).alloc (by simp; omega) _).trans (hB.mono (by simp; omega))
  go_wp2
  exact ⟨rfl, _, results_tmp rfl _ _ _, rfl, hb1⟩

def okS (x : S3) : Prop := 1 ≤ x.f ∧ x.f ≤ x.t ∧ x.t ≤ 4611686018427387904
theorem lacks_ok (a b : V) (ha : a.rng) : ∀ x ∈ lacksL a b, okS x := by
  intro x hx
  unfold lacksL at hx
  split at hx
  · rename_i hm
    have hmb : b.may = true := by simp at hm; exact hm.2
    unfold lackL at hx
    obtain ⟨y, hy, hx⟩ := List.mem_flatMap.1 hx
    obtain ⟨k1, k8⟩ := y.bd
    unfold lackOne at hx
    split at hx
    · rename_i hlt
      rw [List.mem_singleton.1 hx]
      have h1 := (ha y.nat (by omega)).1
      have h2 := may_le hmb y.nat (by omega)
      exact ⟨by show 1 ≤ a y.nat + 1; omega, by show a y.nat + 1 ≤ b y.nat; omega, h2⟩
    · cases hx
  · cases hx
theorem lacks_len (a b : V) : (lacksL a b).length ≤ 8 := by
  unfold lacksL; split
  · exact lack_len a b all8
  · simp
theorem lacks_any (a b : V) (ha : a.rng) (w : World) : Calls Try.prog 28 #[vec a, vec b] w fun e w' => ∃ a0 cap, e = .returned (.slice a0 (lacksL a b).length cap) ∧ rowV w' a0 (lacksL a b).length 3 enT (lacksL a b) ∧ (lacksL a b).length ≤ cap ∧ cap ≤ maxLen ∧ (a0 = none → cap = 0) ∧ Below w.heap.size w w' := by
  cases hm : (a.may && b.may) with
  | false =>
    have e : lacksL a b = [] := by unfold lacksL; rw [if_neg (by rw [hm]; simp)]
    rw [e]
    refine (lacks_no a b hm w).mono ?_
    rintro e w' ⟨rfl, hB⟩
    exact ⟨none, 0, rfl, ⟨rfl, .inl rfl⟩, Nat.le_refl _, Nat.zero_le _, fun _ => rfl, hB⟩
  | true =>
    have e : lacksL a b = lackL a b all8 := by unfold lacksL; rw [if_pos hm]
    rw [e]
    have h := hm
    simp only [Bool.and_eq_true] at h
    exact lacks_yes a b ha h.1 h.2 w

def manyS : Int → List S3 → Int
  | m, [] => m
  | m, x :: l => manyS (min (m + x.t - x.f + 1) 4611686018427387904) l
set_option maxRecDepth 4000 in
theorem many_any (a b : V) (ha : a.rng) (w : World) : Calls Try.prog 29 #[vec a, vec b] w fun e w' => e = .returned (.int .u64 (manyS 0 (lacksL a b))) ∧ Below w.heap.size w w' := by
  have hok := lacks_ok a b ha
  have hln := lacks_len a b
  have hlk := fun w => lacks_any a b ha w
  generalize lacksL a b = l at *
  go_enter Try.func29, Try.ntmps29
  go_wp2_with fail
  refine (hlk _).mono ?_
  clear hlk
  rintro e w1 ⟨a0, cap, rfl, hrw, hc1, hc2, hc3, hB⟩
  have HR := Lib.hid hrw
  have b0 := hB.size
  simp only [World.size_alloc] at b0
  have hb1 : Below w.heap.size w w1 := (((Below.refl _ _).alloc (Nat.le_refl _) _).alloc (by simp) _).trans (hB.mono (by simp; omega))
  clear hrw hB
  go_wp2_with fail
  go_loopw [5, 7, 12] (fun p _ i wr => ∃ k : Nat, k ≤ l.length ∧ i = .int .i64 k ∧ ∃ m : Int, 0 ≤ m ∧ m ≤ 4611686018427387904 ∧ p = .int .u64 m ∧ manyS 0 l = manyS m (l.drop k) ∧ Below w1.heap.size w1 wr)
      (fun _ _ i _ => l.length - (intOf i).toNat)
  case atStart => exact ⟨0, Nat.zero_le _, rfl, 0, by omega, by omega, rfl, by simp, Below.refl _ _⟩
  case round =>
    obtain ⟨k, hk, rfl, m, hm0, hm1, rfl, hS, hBg⟩ := hrel
    have HS := Lib.hid hS
    clear hS
    by_cases hlt : k < l.length
    · obtain ⟨b, off, rfl, hc⟩ := (rowV_below HR.out hBg).2.resolve_left (by intro e; subst e; simp at hlt)
      have d0 := hc.2 k hlt 0 (by omega)
      have d1 := hc.2 k hlt 1 (by omega)
      have d2 := hc.2 k hlt 2 (by omega)
      simp only [enT, List.getElem?_cons_zero, List.getElem?_cons_succ, Nat.add_zero] at d0 d1 d2
      have HD := Lib.hid (List.drop_eq_getElem_cons hlt)
      obtain ⟨q1, q2, q3⟩ := hok l[k] (List.getElem_mem hlt)
      clear hc
      generalize l[k] = x at *
      have k1 : IntKind.u64.wrap (m + x.t) = m + x.t := IntWalk.u64_in _ (by omega)
      have k2 : IntKind.u64.wrap (m + x.t - x.f) = m + x.t - x.f := IntWalk.u64_in _ (by omega)
      have k3 : IntKind.u64.wrap (m + x.t - x.f + 1) = m + x.t - x.f + 1 := IntWalk.u64_in _ (by omega)
      go_wp2_with fail
      have hmin : (if 4611686018427387904 < m + x.t - x.f + 1 then 4611686018427387904 else m + x.t - x.f + 1) = min (m + x.t - x.f + 1) 4611686018427387904 := by
        rw [Int.min_def]; split <;> split <;> omega
      rw [hmin]
      refine ⟨⟨k + 1, hlt, by go_num, min (m + x.t - x.f + 1) 4611686018427387904, by omega, by omega, rfl, by rw [HS.out, HD.out]; rfl, hBg.alloc (by have := hBg.size; omega) _⟩, ?_⟩
      simp [intOf]; omega
    · obtain rfl : k = l.length := by omega
      have HF := Lib.hid (show manyS 0 l = m by rw [HS.out, List.drop_length]; rfl)
      go_wp2
      rw [HF.out]
      exact ⟨rfl, _, results_tmp rfl _ _ _, rfl, hb1.trans (hBg.mono (by omega))⟩
end Go.Proofs.Ytjpgabpicfcapaa
