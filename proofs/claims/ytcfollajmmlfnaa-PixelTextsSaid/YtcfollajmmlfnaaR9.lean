/- The document's Read: pairs of digits, in plain arithmetic -/
import Derived.Test.YtcfollajmmlfnaaR8
namespace Go.Proofs.Ytcfollajmmlfnaa
open Go.RowKit

def pairVal (s : ByteArray) (i : Nat) : Option Int := match byteAt s (2 * i), byteAt s (2 * i + 1) with
  | some a, some b => some (a * 16 + b)
  | _, _ => none
theorem byteAt_bd {s : ByteArray} {k : Nat} {v : Int} (h : byteAt s k = some v) : 0 ≤ v ∧ v ≤ 15 := by
  unfold byteAt at h
  split at h
  · have := hexVal_bd h; omega
  · cases h
theorem pairVal_bd {s : ByteArray} {i : Nat} {v : Int} (h : pairVal s i = some v) : 0 ≤ v ∧ v ≤ 255 := by
  unfold pairVal at h
  split at h
  · rename_i a b ha hb
    have := byteAt_bd ha
    have := byteAt_bd hb
    obtain rfl := Option.some.inj h
    omega
  · cases h
theorem ext_two (s : ByteArray) (h8 : s.size = 8) (i : Nat) (hi : i < 4) : s.extract (2 * i) (2 * i + 2) = ⟨#[s[2 * i], s[2 * i + 1]]⟩ := by
  obtain ⟨⟨l⟩⟩ := s
  match l, h8 with
  | [b0, b1, b2, b3, b4, b5, b6, b7], _ =>
    have hc : i = 0 ∨ i = 1 ∨ i = 2 ∨ i = 3 := by omega
    rcases hc with rfl | rfl | rfl | rfl <;> rfl
theorem two_eq (a b c d : UInt8) : ((⟨#[a, b]⟩ : ByteArray) = ⟨#[c, d]⟩) ↔ a = c ∧ b = d := by
  constructor
  · intro h
    injection h with h
    simpa using h
  · rintro ⟨rfl, rfl⟩; rfl
theorem digit_byte {b : UInt8} {d : Int} (h0 : 0 ≤ d) (h1 : d ≤ 15) : UInt8.ofNat (hexDigit d).toNat = b ↔ hexVal (b.toNat : Int) = some d := by
  constructor
  · rintro rfl
    rw [u8_ofInt _ (by have := hexDigit_bd d h0 h1; omega) (by have := hexDigit_bd d h0 h1; omega)]
    exact hexVal_digit d h0 h1
  · intro h
    rw [hexDigit_val h]
    simp
theorem pair_eq (s : ByteArray) (h8 : s.size = 8) (i : Nat) (hi : i < 4) (n : Int) (h0 : 0 ≤ n) (h1 : n ≤ 255) : (twoHex n = s.extract (2 * i) (2 * i + 2)) ↔ pairVal s i = some n := by
  rw [ext_two s h8 i hi]
  have e1 : byteAt s (2 * i) = hexVal (s[2 * i].toNat : Int) := by unfold byteAt; rw [dif_pos (by omega)]
  have e2 : byteAt s (2 * i + 1) = hexVal (s[2 * i + 1].toNat : Int) := by unfold byteAt; rw [dif_pos (by omega)]
  have ht : twoHex n = ⟨#[UInt8.ofNat (hexDigit (n / 16)).toNat, UInt8.ofNat (hexDigit (n % 16)).toNat]⟩ := rfl
  rw [ht, two_eq, digit_byte (by omega) (by omega), digit_byte (by omega) (by omega)]
  unfold pairVal
  rw [← e1, ← e2]
  constructor
  · rintro ⟨ha, hb⟩
    rw [ha, hb]
    dsimp only
    congr 1
    omega
  · intro h
    split at h
    · rename_i a b ha hb
      have := byteAt_bd ha
      have := byteAt_bd hb
      obtain rfl := Option.some.inj h
      rw [ha, hb]
      constructor <;> congr 1 <;> omega
    · cases h

theorem pair_beq (s : ByteArray) (h8 : s.size = 8) (i : Nat) (hi : i < 4) (n : Int) (h0 : 0 ≤ n) (h1 : n ≤ 255) : ((twoHex n).toList == (s.extract (2 * i) (2 * i + 2)).toList) = decide (pairVal s i = some n) := by
  rw [Bool.eq_iff_iff, beq_iff_eq, decide_eq_true_eq, ← pair_eq s h8 i hi n h0 h1]
  constructor
  · intro h
    rw [ByteArray.toList_eq, ByteArray.toList_eq] at h
    generalize s.extract (2 * i) (2 * i + 2) = u at *
    generalize twoHex n = v at *
    obtain ⟨a⟩ := u
    obtain ⟨b⟩ := v
    congr 1
    exact Array.toList_inj.1 h
  · intro h; rw [h]

/-- what was found in the first k numbers -/
def foundTo (s : ByteArray) (i : Nat) (k : Int) : Bool := match pairVal s i with
  | some v => decide (v < k)
  | none => false
def cellV (s : ByteArray) (i : Nat) (k : Int) (j : Nat) : Int := if j < i then (pairVal s j).getD 0 else if j = i ∧ foundTo s i k = true then (pairVal s i).getD 0 else 0
def plOf (s : ByteArray) (i : Nat) (k : Int) : List Value := [.int .i64 (cellV s i k 0), .int .i64 (cellV s i k 1), .int .i64 (cellV s i k 2), .int .i64 (cellV s i k 3)]
theorem plOf_len (s : ByteArray) (i : Nat) (k : Int) : (plOf s i k).length = 4 := rfl
theorem found_yes {s : ByteArray} {i : Nat} {k : Int} (h : pairVal s i = some k) : foundTo s i (k + 1) = true := by
  unfold foundTo; rw [h]; simp; omega
theorem found_no {s : ByteArray} {i : Nat} {k : Int} (h : pairVal s i ≠ some k) : foundTo s i (k + 1) = foundTo s i k := by
  unfold foundTo
  cases hp : pairVal s i with
  | none => rfl
  | some v =>
    have : v ≠ k := fun e => h (by rw [hp, e])
    simp only [decide_eq_decide]
    omega
theorem found_start (s : ByteArray) (i : Nat) : foundTo s i 0 = false := by
  unfold foundTo
  cases hp : pairVal s i with
  | none => rfl
  | some v => have := pairVal_bd hp; simp; omega
theorem found_end (s : ByteArray) (i : Nat) : foundTo s i 256 = (pairVal s i).isSome := by
  unfold foundTo
  cases hp : pairVal s i with
  | none => rfl
  | some v => have := pairVal_bd hp; simp; omega
theorem pl_no {s : ByteArray} {i : Nat} {k : Int} (h : pairVal s i ≠ some k) : plOf s i (k + 1) = plOf s i k := by
  have := found_no h
  simp only [plOf, cellV, this]
theorem pl_yes {s : ByteArray} {i : Nat} {k : Int} (hi : i < 4) (h : pairVal s i = some k) : plOf s i (k + 1) = (plOf s i k).set i (.int .i64 k) := by
  have h1 := found_yes h
  have h2 : foundTo s i k = false := by unfold foundTo; rw [h]; simp
  have hc : i = 0 ∨ i = 1 ∨ i = 2 ∨ i = 3 := by omega
  rcases hc with rfl | rfl | rfl | rfl <;> simp [plOf, cellV, h1, h2, h]
theorem pl_next {s : ByteArray} {i : Nat} (h : (pairVal s i).isSome = true) : plOf s i 256 = plOf s (i + 1) 0 := by
  have h1 := found_end s i
  have h2 := found_start s (i + 1)
  rw [h] at h1
  have key : ∀ j, cellV s i 256 j = cellV s (i + 1) 0 j := by
    intro j
    unfold cellV
    rw [h1, h2]
    by_cases a : j < i
    · rw [if_pos a, if_pos (by omega)]
    · rw [if_neg a]
      by_cases b : j = i
      · subst b; simp
      · rw [if_neg (by simp [b]), if_neg (by omega)]; simp
  simp only [plOf, key]

/-- what comes of a text -/
theorem word_pairs {s : ByteArray} (v0 v1 v2 v3 : Int) (h0 : pairVal s 0 = some v0) (h1 : pairVal s 1 = some v1) (h2 : pairVal s 2 = some v2) (h3 : pairVal s 3 = some v3) :
    ∃ x, wordUp s 8 = some x ∧ unword x = ⟨v0 % 256, v1 % 256, v2 % 256, v3 % 256⟩ := by
  have key : ∀ (i : Nat) (v : Int), pairVal s i = some v → ∃ a b, byteAt s (2 * i) = some a ∧ byteAt s (2 * i + 1) = some b ∧ v = a * 16 + b ∧ 0 ≤ a ∧ a ≤ 15 ∧ 0 ≤ b ∧ b ≤ 15 := by
    intro i v h
    unfold pairVal at h
    split at h
    · rename_i a b ha hb
      have k1 := byteAt_bd ha
      have k2 := byteAt_bd hb
      exact ⟨a, b, ha, hb, (Option.some.inj h).symm, k1.1, k1.2, k2.1, k2.2⟩
    · cases h
  obtain ⟨a0, a1, e0, e1, rfl, _, _, _, _⟩ := key 0 v0 h0
  obtain ⟨a2, a3, e2, e3, rfl, _, _, _, _⟩ := key 1 v1 h1
  obtain ⟨a4, a5, e4, e5, rfl, _, _, _, _⟩ := key 2 v2 h2
  obtain ⟨a6, a7, e6, e7, rfl, _, _, _, _⟩ := key 3 v3 h3
  have w0 : wordUp s 0 = some 0 := rfl
  refine ⟨_, wordUp_step (wordUp_step (wordUp_step (wordUp_step (wordUp_step (wordUp_step (wordUp_step (wordUp_step w0 e0 rfl) e1 rfl) e2 rfl) e3 rfl) e4 rfl) e5 rfl) e6 rfl) e7 rfl, ?_⟩
  simp only [unword, C4.mk.injEq]
  refine ⟨?_, ?_, ?_, ?_⟩ <;> omega
theorem word_nopair {s : ByteArray} {i : Nat} (hi : i < 4) (h : pairVal s i = none) : wordUp s 8 = none := by
  have hup : ∀ k, byteAt s k = none → wordUp s (k + 1) = none := by
    intro k hk
    cases hw : wordUp s (k + 1) with
    | none => rfl
    | some x => obtain ⟨_, _, _, hb, _⟩ := wordUp_back hw; rw [hk] at hb; cases hb
  unfold pairVal at h
  cases h1 : byteAt s (2 * i) with
  | none => exact wordUp_none s _ (hup _ h1) 8 (by omega)
  | some a =>
    cases h2 : byteAt s (2 * i + 1) with
    | none => exact wordUp_none s _ (hup _ h2) 8 (by omega)
    | some b => rw [h1, h2] at h; cases h
end Go.Proofs.Ytcfollajmmlfnaa
