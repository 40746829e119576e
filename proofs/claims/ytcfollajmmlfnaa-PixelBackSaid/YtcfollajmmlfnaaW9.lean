/- Pack, Unpack, digit, Read's closure -/
import Derived.Recover
import Derived.Test.YtcfollajmmlfnaaW8
namespace Go.Proofs.Ytcfollajmmlfnaa
open Go.RowKit

theorem or_low (k : Nat) (a b : Nat) (hb : b < 2 ^ k) : (a * 2 ^ k ||| b) = a * 2 ^ k + b := by
  rw [Nat.mul_comm, ← Nat.two_pow_add_eq_or_of_lt hb]

theorem u32_or_low (k : Nat) (a b m : Int) (hm : m = 2 ^ k) (ha : 0 ≤ a) (hb : 0 ≤ b) (hbk : b < m) (h : a * m + b < 4294967296) : bits .or .u32 (a * m) b = a * m + b := by
  have hmn : m = ((2 ^ k : Nat) : Int) := by rw [hm]; simp
  have h0 : 0 ≤ a * m := Int.mul_nonneg ha (by omega)
  rw [u32_or _ _ h0 (by omega) hb (by omega)]
  obtain ⟨x, rfl⟩ := Int.eq_ofNat_of_zero_le ha
  obtain ⟨y, rfl⟩ := Int.eq_ofNat_of_zero_le hb
  subst hmn
  rw [← Int.natCast_mul, Int.toNat_natCast, Int.toNat_natCast, or_low k x y (by exact_mod_cast hbk)]
  simp

def C4.word (c : C4) : Int := ((c.r * 256 + c.g) * 256 + c.b) * 256 + c.a

theorem word_any (w : World) (c : C4) (hc : c.ok) :
    Calls Try.prog 38 #[.agg #[.int .u8 c.r, .int .u8 c.g, .int .u8 c.b, .int .u8 c.a]] w fun e w' => e = .returned (.int .u32 c.word) ∧ Below w.heap.size w w' := by
  obtain ⟨⟨r0, r1⟩, ⟨g0, g1⟩, ⟨b0, b1⟩, a0, a1⟩ := hc
  have e1 : bits .or .u32 (c.r * 16777216) (c.g * 65536) = c.r * 16777216 + c.g * 65536 := u32_or_low 24 _ _ _ (by decide) r0 (by omega) (by omega) (by omega)
  have e2 : bits .or .u32 (c.r * 16777216 + c.g * 65536) (c.b * 256) = c.r * 16777216 + c.g * 65536 + c.b * 256 := by
    have := u32_or_low 16 (c.r * 256 + c.g) (c.b * 256) 65536 (by decide) (by omega) (by omega) (by omega) (by omega)
    rwa [show (c.r * 256 + c.g) * 65536 = c.r * 16777216 + c.g * 65536 by omega] at this
  have e3 : bits .or .u32 (c.r * 16777216 + c.g * 65536 + c.b * 256) c.a = c.word := by
    have := u32_or_low 8 (c.r * 65536 + c.g * 256 + c.b) c.a 256 (by decide) (by omega) (by omega) (by omega) (by omega)
    rw [show (c.r * 65536 + c.g * 256 + c.b) * 256 = c.r * 16777216 + c.g * 65536 + c.b * 256 by omega] at this
    rw [this]; unfold C4.word; omega
  have E1 := Lib.hid e1
  have E2 := Lib.hid e2
  have E3 := Lib.hid e3
  clear e1 e2 e3
  go_enter Try.func38, Try.ntmps38
  go_wp2
  rw [E1.out, E2.out, E3.out]
  go_ret
  exact ⟨rfl, ((Below.refl _ _).alloc (Nat.le_refl _) _)⟩

theorem pack_any (w : World) (c : C4) (hc : c.ok) :
    Calls Try.prog 21 #[c.val] w fun e w' => e = .returned (.int .u32 c.word) ∧ Below w.heap.size w w' := by
  go_enter Try.func21, Try.ntmps21
  go_wp2_with (go_at_call 38; refine (word_any _ c hc).mono ?_; rintro e w' ⟨rfl, hB⟩)
  go_ret
  exact ⟨rfl, ((Below.refl _ _).alloc (Nat.le_refl _) _).trans (hB.mono (by simp))⟩

def unword (x : Int) : C4 := ⟨x / 16777216, x / 65536 % 256, x / 256 % 256, x % 256⟩

theorem unpack_any (w : World) (x : Int) (h0 : 0 ≤ x) (h1 : x ≤ 4294967295) :
    Calls Try.prog 25 #[.int .u32 x] w fun e w' => e = .returned (unword x).val ∧ Below w.heap.size w w' := by
  have hn := @near_cell (w.heap.size + 1)
  go_enter Try.func25, Try.ntmps25
  go_wp2_with fail
  refine (colorOf_any _ _ _ _ _).mono ?_
  rintro e w' ⟨rfl, hB⟩
  obtain ⟨n, rfl⟩ : ∃ n : Near (w.heap.size + 1) _, w' = n.u := ⟨⟨w', by simpa using hB⟩, rfl⟩
  have hz := @near_frozen (w.heap.size + 1)
  go_wp2
  refine bodyPost_ret (v := (unword x).val) ?_ rfl ⟨rfl, ?_⟩
  · simp [results, Try.results25, go_sem, hn, unword]
  · repeat (first | with_reducible refine Below.setCell ?_ (by dsimp only; omega) _ | with_reducible refine Below.alloc ?_ (by first | (simp only [World.size_alloc]; omega) | omega) _ | with_reducible exact Below.refl _ _ | with_reducible refine Below.trans ?_ ((Near.h _).mono (by omega)))

def hexVal (r : Int) : Option Int := if 48 ≤ r ∧ r ≤ 57 then some (r - 48) else if 97 ≤ r ∧ r ≤ 102 then some (r - 87) else none
theorem hexVal_bd {r v : Int} (h : hexVal r = some v) : 0 ≤ v ∧ v ≤ 15 ∧ 48 ≤ r ∧ r ≤ 102 := by
  unfold hexVal at h
  split at h
  · obtain rfl := Option.some.inj h; omega
  · split at h
    · obtain rfl := Option.some.inj h; omega
    · cases h

theorem digit_hex (r v : Int) (h : hexVal r = some v) (w : World) :
    Calls Try.prog 42 #[.int .i32 r] w fun e w' => e = .returned (.int .u32 v) ∧ w = w' := by
  unfold hexVal at h
  split at h
  · rename_i hr
    obtain ⟨h1, h2⟩ := hr
    obtain rfl := Option.some.inj h
    clear h
    go_enter Try.func42, Try.ntmps42
    go_wp2
    go_ret
    exact ⟨rfl, rfl⟩
  · split at h
    · rename_i hr
      obtain ⟨h1, h2⟩ := hr
      obtain rfl := Option.some.inj h
      clear h
      have h3 : ¬ r ≤ 57 := by omega
      go_enter Try.func42, Try.ntmps42
      go_wp2
      go_ret
      refine ⟨?_, rfl⟩
      simp
      omega
    · cases h

theorem digit_bad (r : Int) (h : hexVal r = none) (w : World) :
    Calls Try.prog 42 #[.int .i32 r] w fun e w' => e = .panicked [{ v := .iface 78 (.agg #[]), recovered := false }] ∧ w = w' := by
  have hcase : r < 48 ∨ (57 < r ∧ r < 97) ∨ 102 < r := by
    unfold hexVal at h
    split at h
    · cases h
    · split at h
      · cases h
      · omega
  clear h
  rcases hcase with h | ⟨h, h2⟩ | h
  all_goals
    go_enter Try.func42, Try.ntmps42
    go_wp2
    exact ⟨rfl, rfl, rfl⟩
end Go.Proofs.Ytcfollajmmlfnaa
