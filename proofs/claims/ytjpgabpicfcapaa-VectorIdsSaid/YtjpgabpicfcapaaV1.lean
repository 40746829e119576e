/- walks: ids and vectors that may be -/
import Derived.Test.YtjpgabpicfcapaaV0
import Derived.Test.YtjpgabpicfcapaaRow
import Derived.WalkSpells
import Derived.WalkLawsBesides
import Derived.Lib.Hide
import Derived.LoopTactic
namespace Go.Proofs.Ytjpgabpicfcapaa
open Go.RowKit

/-- an id's numbers -/
structure I3 where
  t : Int
  s : Int
  q : Int
abbrev I3.val (i : I3) : Value := .agg #[.int .u64 i.t, .int .i64 i.s, .int .u64 i.q]
def isNum (n : Int) : Bool := decide (1 ≤ n) && decide (n ≤ 4611686018427387904)
def isSt (n : Int) : Bool := decide (1 ≤ n) && decide (n ≤ 8)
def I3.may (i : I3) : Bool := isNum i.t && (isSt i.s && isNum i.q)
/-- the Go value's bounds -/
def I3.rng (i : I3) : Prop := (0 ≤ i.t ∧ i.t ≤ 18446744073709551615) ∧ (-9223372036854775808 ≤ i.s ∧ i.s ≤ 9223372036854775807) ∧ (0 ≤ i.q ∧ i.q ≤ 18446744073709551615)

theorem isNumber_any (n : Int) (w : World) : Calls Try.prog 46 #[.int .u64 n] w fun e w' => e = .returned (.bool (isNum n)) ∧ w = w' := by
  unfold isNum
  by_cases h1 : 1 ≤ n <;> by_cases h2 : n ≤ 4611686018427387904
  all_goals
    go_enter Try.func46, Try.ntmps46
    go_wp2
    go_ret
    exact ⟨by simp [h1, h2], rfl⟩
theorem isSite_any (n : Int) (w : World) : Calls Try.prog 47 #[.int .i64 n] w fun e w' => e = .returned (.bool (isSt n)) ∧ w = w' := by
  unfold isSt
  by_cases h1 : 1 ≤ n <;> by_cases h2 : n ≤ 8
  all_goals
    go_enter Try.func47, Try.ntmps47
    go_wp2
    go_ret
    exact ⟨by simp [h1, h2], rfl⟩

/-- no error, or this one -/
def errOr (b : Bool) (n : Int) : Int := match b with | true => 0 | false => n

theorem idCheck_any (i : I3) (w : World) : Calls Try.prog 35 #[i.val] w fun e w' => e = .returned (.int .i64 (errOr i.may 210)) ∧ Below w.heap.size w w' := by
  unfold I3.may
  cases h1 : isNum i.t <;> cases h2 : isSt i.s <;> cases h3 : isNum i.q
  all_goals
    have H1 := Lib.hid h1
    have H2 := Lib.hid h2
    have H3 := Lib.hid h3
    clear h1 h2 h3
    go_enter Try.func35, Try.ntmps35
    go_wp2_with fail
    refine (isNumber_any _ _).mono ?_
    rintro e w1 ⟨rfl, rfl⟩
    rw [H1.out]
    go_wp2_with fail
    try
      refine (isSite_any _ _).mono ?_
      rintro e w1 ⟨rfl, rfl⟩
      rw [H2.out]
      go_wp2_with fail
    try
      refine (isNumber_any _ _).mono ?_
      rintro e w1 ⟨rfl, rfl⟩
      rw [H3.out]
      go_wp2_with fail
    go_ret
    exact ⟨rfl, (Below.refl _ _).alloc (Nat.le_refl _) _⟩

/-- at this place something is wrong -/
def V.badAt (v : V) (k : Nat) : Bool := decide (4611686018427387904 < v k) || (k == 0 && decide (0 < v k))
def V.may (v : V) : Bool := (List.range 9).all fun k => !v.badAt k
theorem may_of {v : V} (h : ∀ k, k < 9 → v.badAt k = false) : v.may = true := by
  unfold V.may; rw [List.all_eq_true]; intro k hk; rw [h k (List.mem_range.1 hk)]; rfl
theorem may_not {v : V} {k : Nat} (hk : k < 9) (h : v.badAt k = true) : v.may = false := by
  unfold V.may
  rw [← Bool.not_eq_true, List.all_eq_true]
  intro hall
  have := hall k (List.mem_range.2 hk)
  rw [h] at this; cases this
theorem may_zero {v : V} (h : v.same V.zero = true) : v.may = true :=
  may_of fun k hk => by
    have := (V.same_iff _ _).1 h k hk
    unfold V.badAt; rw [this]; simp [V.zero]

set_option maxHeartbeats 1000000 in
theorem check_any (v : V) (w : World) : Calls Try.prog 10 #[vec v] w fun e w' => e = .returned (.int .i64 (errOr v.may 230)) ∧ Below w.heap.size w w' := by
  have hq := run_eql_zero v
  cases hs : v.same V.zero with
  | true =>
    have HM := Lib.hid (may_zero hs)
    have HS := Lib.hid hs
    rw [hs] at hq
    clear hs
    go_enter Try.func10, Try.ntmps10
    go_wp2
    go_ret
    exact ⟨by rw [HM.out]; rfl, (Below.refl _ _).alloc (Nat.le_refl _) _⟩
  | false =>
    rw [hs] at hq
    clear hs
    have hix := index_vec
    go_enter Try.func10, Try.ntmps10
    go_wp2_with fail
    clear hq
    go_loop [3, 4, 9] (fun _ _ i => ∃ k : Nat, k ≤ 9 ∧ i = .int .i64 k ∧ ∀ j, j < k → v.badAt j = false) (fun _ _ i => 9 - (intOf i).toNat)
    case atStart => exact ⟨0, by omega, rfl, fun j hj => by omega⟩
    case round =>
      obtain ⟨k, hk, rfl, hall⟩ := hrel
      by_cases hlt : k < 9
      · have hix := fun w => index_vec w v k hlt
        by_cases h1 : 4611686018427387904 < v k
        · have HB := Lib.hid (may_not hlt (show v.badAt k = true by unfold V.badAt; simp [h1]))
          go_wp2
          go_ret
          exact ⟨by rw [HB.out]; rfl, (Below.refl _ _).alloc (Nat.le_refl _) _⟩
        · by_cases h0 : k = 0
          · have h0' : ((k : Int) == 0) = true := by simp; omega
            have H0 := Lib.hid h0
            clear h0
            by_cases h2 : 0 < v k
            · have HB := Lib.hid (may_not hlt (show v.badAt k = true by unfold V.badAt; rw [beq_iff_eq.2 H0.out]; simp [h2]))
              go_wp2
              go_ret
              exact ⟨by rw [HB.out]; rfl, (Below.refl _ _).alloc (Nat.le_refl _) _⟩
            · have HB := Lib.hid (show v.badAt k = false by unfold V.badAt; simp; omega)
              go_wp2
              go_round
              case rel => exact ⟨k + 1, by omega, by go_num, fun j hj => by
                by_cases e : j = k
                · subst e; exact HB.out
                · exact hall j (by omega)⟩
              case measure => simp [intOf]; omega
          · have h0' : ((k : Int) == 0) = false := by simp; omega
            have HB := Lib.hid (show v.badAt k = false by unfold V.badAt; simp; omega)
            go_wp2
            go_round
            case rel => exact ⟨k + 1, by omega, by go_num, fun j hj => by
              by_cases e : j = k
              · subst e; exact HB.out
              · exact hall j (by omega)⟩
            case measure => simp [intOf]; omega
      · obtain rfl : k = 9 := by omega
        have HM := Lib.hid (may_of hall)
        go_wp2
        go_ret
        exact ⟨by rw [HM.out]; rfl, (Below.refl _ _).alloc (Nat.le_refl _) _⟩
end Go.Proofs.Ytjpgabpicfcapaa
