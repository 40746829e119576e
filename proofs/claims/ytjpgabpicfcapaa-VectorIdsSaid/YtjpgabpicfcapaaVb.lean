/- What two vectors come to, place by place; covering as an order. -/
import Derived.Test.YtjpgabpicfcapaaV14
namespace Go.Proofs.Ytjpgabpicfcapaa
open Go.RowKit

theorem mem_all8 {k : Nat} (h1 : 1 ≤ k) (h8 : k ≤ 8) : ∃ x ∈ all8, x.nat = k := by
  match k, h1, h8 with
  | 1, _, _ => exact ⟨.s1, by simp [all8], rfl⟩
  | 2, _, _ => exact ⟨.s2, by simp [all8], rfl⟩
  | 3, _, _ => exact ⟨.s3, by simp [all8], rfl⟩
  | 4, _, _ => exact ⟨.s4, by simp [all8], rfl⟩
  | 5, _, _ => exact ⟨.s5, by simp [all8], rfl⟩
  | 6, _, _ => exact ⟨.s6, by simp [all8], rfl⟩
  | 7, _, _ => exact ⟨.s7, by simp [all8], rfl⟩
  | 8, _, _ => exact ⟨.s8, by simp [all8], rfl⟩
theorem come_zero (c : Int → Int → Int) (a b : V) : comeTo c a b 0 = a 0 := by
  simp [comeTo, mergeL, all8, mergeStep, V.set, S8.nat]
theorem come_at (c : Int → Int → Int) (a b : V) (k : Nat) (h1 : 1 ≤ k) (h8 : k ≤ 8) : comeTo c a b k = c (a k) (b k) := by
  match k, h1, h8 with
  | 1, _, _ => simp [comeTo, mergeL, all8, mergeStep, V.set, S8.nat]
  | 2, _, _ => simp [comeTo, mergeL, all8, mergeStep, V.set, S8.nat]
  | 3, _, _ => simp [comeTo, mergeL, all8, mergeStep, V.set, S8.nat]
  | 4, _, _ => simp [comeTo, mergeL, all8, mergeStep, V.set, S8.nat]
  | 5, _, _ => simp [comeTo, mergeL, all8, mergeStep, V.set, S8.nat]
  | 6, _, _ => simp [comeTo, mergeL, all8, mergeStep, V.set, S8.nat]
  | 7, _, _ => simp [comeTo, mergeL, all8, mergeStep, V.set, S8.nat]
  | 8, _, _ => simp [comeTo, mergeL, all8, mergeStep, V.set, S8.nat]
theorem may_iff (v : V) : v.may = true ↔ ∀ k, k < 9 → v.badAt k = false := by
  unfold V.may
  rw [List.all_eq_true]
  constructor
  · intro h k hk; simpa using h k (List.mem_range.2 hk)
  · intro h k hk; simpa using h k (List.mem_range.1 hk)
theorem covers_iff (a b : V) : coversB a b = true ↔ a.may = true ∧ b.may = true ∧ ∀ k, 1 ≤ k → k ≤ 8 → b k ≤ a k := by
  unfold coversB
  simp only [Bool.and_eq_true, List.all_eq_true, decide_eq_true_eq, and_assoc]
  constructor
  · rintro ⟨h1, h2, h3⟩
    refine ⟨h1, h2, fun k k1 k8 => ?_⟩
    obtain ⟨x, hx, rfl⟩ := mem_all8 k1 k8
    exact h3 x hx
  · rintro ⟨h1, h2, h3⟩
    exact ⟨h1, h2, fun x _ => h3 _ x.bd.1 x.bd.2⟩
theorem may_spec (v : V) : v.may = true ↔ v 0 ≤ 0 ∧ ∀ k, k < 9 → v k ≤ 4611686018427387904 := by
  rw [may_iff]
  constructor
  · intro h
    refine ⟨?_, fun k hk => ?_⟩
    · have := h 0 (by omega)
      simp [V.badAt] at this; omega
    · have := h k hk
      simp only [V.badAt, Bool.or_eq_false_iff, decide_eq_false_iff_not] at this; omega
  · rintro ⟨h0, h⟩ k hk
    have := h k hk
    simp only [V.badAt, Bool.or_eq_false_iff, decide_eq_false_iff_not, Bool.and_eq_false_iff]
    refine ⟨by omega, ?_⟩
    by_cases e : k = 0
    · subst e; exact .inr (by omega)
    · exact .inl (by simpa using e)
theorem come_may (c : Int → Int → Int) (hc : ∀ x y, c x y = x ∨ c x y = y) {a b : V} (ha : a.may = true) (hb : b.may = true) : (comeTo c a b).may = true := by
  rw [may_spec] at *
  refine ⟨by rw [come_zero]; exact ha.1, fun k hk => ?_⟩
  by_cases e : k = 0
  · subst e; rw [come_zero]; exact ha.2 0 (by omega)
  · rw [come_at c a b k (by omega) (by omega)]
    have h1 := ha.2 k hk
    have h2 := hb.2 k hk
    rcases hc (a k) (b k) with e | e <;> rw [e] <;> assumption
theorem max_or (x y : Int) : max x y = x ∨ max x y = y := by omega
theorem min_or (x y : Int) : min x y = x ∨ min x y = y := by omega
abbrev joinV (a b : V) : V := comeTo (fun x y : Int => max x y) a b
abbrev meetV (a b : V) : V := comeTo (fun x y : Int => min x y) a b
theorem join_may {a b : V} (ha : a.may = true) (hb : b.may = true) : (joinV a b).may = true := come_may _ max_or ha hb
theorem meet_may {a b : V} (ha : a.may = true) (hb : b.may = true) : (meetV a b).may = true := come_may _ min_or ha hb
theorem join_left {a b : V} (ha : a.may = true) (hb : b.may = true) : coversB (joinV a b) a = true :=
  (covers_iff _ _).2 ⟨join_may ha hb, ha, fun k h1 h8 => by unfold joinV; rw [come_at _ a b k h1 h8]; omega⟩
theorem join_right {a b : V} (ha : a.may = true) (hb : b.may = true) : coversB (joinV a b) b = true :=
  (covers_iff _ _).2 ⟨join_may ha hb, hb, fun k h1 h8 => by unfold joinV; rw [come_at _ a b k h1 h8]; omega⟩
theorem meet_left {a b : V} (ha : a.may = true) (hb : b.may = true) : coversB a (meetV a b) = true :=
  (covers_iff _ _).2 ⟨ha, meet_may ha hb, fun k h1 h8 => by unfold meetV; rw [come_at _ a b k h1 h8]; omega⟩
theorem meet_right {a b : V} (ha : a.may = true) (hb : b.may = true) : coversB b (meetV a b) = true :=
  (covers_iff _ _).2 ⟨hb, meet_may ha hb, fun k h1 h8 => by unfold meetV; rw [come_at _ a b k h1 h8]; omega⟩
theorem join_least {a b c : V} (ha : a.may = true) (hb : b.may = true) (h1 : coversB c a = true) (h2 : coversB c b = true) : coversB c (joinV a b) = true := by
  rw [covers_iff] at *
  refine ⟨h1.1, join_may ha hb, fun k k1 k8 => ?_⟩
  unfold joinV; rw [come_at _ a b k k1 k8]
  have := h1.2.2 k k1 k8
  have := h2.2.2 k k1 k8
  omega
theorem meet_most {a b c : V} (ha : a.may = true) (hb : b.may = true) (h1 : coversB a c = true) (h2 : coversB b c = true) : coversB (meetV a b) c = true := by
  rw [covers_iff] at *
  refine ⟨meet_may ha hb, h1.2.1, fun k k1 k8 => ?_⟩
  unfold meetV; rw [come_at _ a b k k1 k8]
  have := h1.2.2 k k1 k8
  have := h2.2.2 k k1 k8
  omega
theorem covers_self {a : V} (ha : a.may = true) : coversB a a = true := (covers_iff _ _).2 ⟨ha, ha, fun _ _ _ => Int.le_refl _⟩
theorem covers_both {a b : V} (ra : a.rng) (rb : b.rng) (ha : a.may = true) (hb : b.may = true) : (coversB a b && coversB b a) = a.same b := by
  rw [Bool.eq_iff_iff, Bool.and_eq_true, covers_iff, covers_iff, V.same_iff]
  constructor
  · rintro ⟨⟨_, _, h1⟩, ⟨_, _, h2⟩⟩ k hk
    by_cases e : k = 0
    · subst e
      have := ((may_spec a).1 ha).1
      have := ((may_spec b).1 hb).1
      have := (ra 0 (by omega)).1
      have := (rb 0 (by omega)).1
      omega
    · have := h1 k (by omega) (by omega)
      have := h2 k (by omega) (by omega)
      omega
  · intro h
    exact ⟨⟨ha, hb, fun k _ h8 => by rw [h k (by omega)]; exact Int.le_refl _⟩, ⟨hb, ha, fun k _ h8 => by rw [h k (by omega)]; exact Int.le_refl _⟩⟩
theorem joinR_one (c : Int → Int → Int) (a b : V) : joinR c a [b] = if a.may && b.may then (comeTo c a b, 0) else (V.zero, 230) := by
  unfold joinR
  have e : allMay [b] = b.may := by simp [allMay]
  rw [e, Bool.and_comm]; rfl
end Go.Proofs.Ytjpgabpicfcapaa
