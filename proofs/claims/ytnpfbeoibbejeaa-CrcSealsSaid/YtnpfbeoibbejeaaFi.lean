/- arguments that are opened -/
import Derived.Test.YtnpfbeoibbejeaaLs
import Derived.Test.YtnpfbeoibbejeaaLz
import Derived.Test.YtnpfbeoibbejeaaKl
import Derived.Test.YtnpfbeoibbejeaaKn
import Derived.Test.YtnpfbeoibbejeaaKo
import Derived.Test.YtnpfbeoibbejeaaKq
namespace Go.Proofs.Ytnpfbeoibbejeaa
set_option linter.unusedVariables false
set_option linter.unusedSimpArgs false
open Go.RowKit
open Go.ChangeShapes Go.WideShapes Go.ChangeAt Go.Joins Go.Deep

theorem fits_prim_i64 {v : Value} (h : (Prim.int .i64).is v) : ∃ a : Int, (-9223372036854775808 ≤ a ∧ a ≤ 9223372036854775807) ∧ v = .int .i64 a := by
  obtain ⟨x, rfl, w⟩ := h
  exact ⟨x, by simpa [Lit.wf, IntKind.min, IntKind.max, IntKind.signed, IntKind.bits] using w, rfl⟩
theorem nat_u32 {v : Value} (h : (Prim.int .u32).is v) : ∃ a : Nat, a < 2 ^ 32 ∧ v = .int .u32 (a : Int) := by
  obtain ⟨x, rfl, w⟩ := h
  have h1 : 0 ≤ x ∧ x ≤ 4294967295 := by simpa [Lit.wf, IntKind.min, IntKind.max, IntKind.signed, IntKind.bits] using w
  obtain ⟨a, rfl⟩ := Int.eq_ofNat_of_zero_le h1.1
  exact ⟨a, by omega, rfl⟩
theorem nat_u8 {v : Value} (h : (Prim.int .u8).is v) : ∃ a : Nat, a < 256 ∧ v = .int .u8 (a : Int) := by
  obtain ⟨x, rfl, w⟩ := h
  have h1 : 0 ≤ x ∧ x ≤ 255 := by simpa [Lit.wf, IntKind.min, IntKind.max, IntKind.signed, IntKind.bits] using w
  obtain ⟨a, rfl⟩ := Int.eq_ofNat_of_zero_le h1.1
  exact ⟨a, by omega, rfl⟩
theorem fits_w2 : ∀ cs, fitsP [.int .u32, .int .u32] cs → ∃ p : Nat × Nat, (p.1 < 2 ^ 32 ∧ p.2 < 2 ^ 32) ∧ cs = w2 p
  | [c0, c1], h => by
    obtain ⟨h0, h1, _⟩ := h
    obtain ⟨x0, w0, rfl⟩ := nat_u32 h0
    obtain ⟨x1, w1, rfl⟩ := nat_u32 h1
    exact ⟨(x0, x1), ⟨w0, w1⟩, rfl⟩
  | [], h => by cases h
  | [_], h => by obtain ⟨_, h⟩ := h; cases h
  | _ :: _ :: _ :: _, h => by obtain ⟨_, _, h⟩ := h; cases h
theorem fits_n4 : ∀ cs, fitsP [.int .u8, .int .u8, .int .u8, .int .u8] cs → ∃ t : Nat, t < 2 ^ 32 ∧ cs = (four t).flatMap un8
  | [c0, c1, c2, c3], h => by
    obtain ⟨h0, h1, h2, h3, _⟩ := h
    obtain ⟨x0, w0, rfl⟩ := nat_u8 h0
    obtain ⟨x1, w1, rfl⟩ := nat_u8 h1
    obtain ⟨x2, w2, rfl⟩ := nat_u8 h2
    obtain ⟨x3, w3, rfl⟩ := nat_u8 h3
    obtain ⟨t, ht, e⟩ := four_of (l := [x0, x1, x2, x3]) rfl (by intro x hx; simp at hx; rcases hx with rfl | rfl | rfl | rfl <;> assumption)
    exact ⟨t, ht, by rw [← e]; rfl⟩
  | [], h => by cases h
  | [_], h => by obtain ⟨_, h⟩ := h; cases h
  | [_, _], h => by obtain ⟨_, _, h⟩ := h; cases h
  | [_, _, _], h => by obtain ⟨_, _, _, h⟩ := h; cases h
  | _ :: _ :: _ :: _ :: _ :: _, h => by obtain ⟨_, _, _, _, h⟩ := h; cases h
theorem fits_prim_u8 {v : Value} (h : (Prim.int .u8).is v) : ∃ a : Int, (0 ≤ a ∧ a < 256) ∧ v = .int .u8 a := by
  obtain ⟨x, w, rfl⟩ := nat_u8 h
  exact ⟨x, by omega, rfl⟩
theorem fits_n32 : ∀ cs, fitsP [.int .u32] cs → ∃ p : Nat, p < 2 ^ 32 ∧ cs = un32 p
  | [c0], h => by
    obtain ⟨h0, _⟩ := h
    obtain ⟨x0, w0, rfl⟩ := nat_u32 h0
    exact ⟨x0, w0, rfl⟩
  | [], h => by cases h
  | _ :: _ :: _, h => by obtain ⟨_, h⟩ := h; cases h
theorem fits_prim_u32 {v : Value} (h : (Prim.int .u32).is v) : ∃ a : Int, (0 ≤ a ∧ a < 4294967296) ∧ v = .int .u32 a := by
  obtain ⟨x, w, rfl⟩ := nat_u32 h
  exact ⟨x, by omega, rfl⟩
theorem fits_n8 : ∀ cs, fitsP [.int .u8] cs → ∃ p : Nat, p < 256 ∧ cs = un8 p
  | [c0], h => by
    obtain ⟨h0, _⟩ := h
    obtain ⟨x0, w0, rfl⟩ := nat_u8 h0
    exact ⟨x0, w0, rfl⟩
  | [], h => by cases h
  | _ :: _ :: _, h => by obtain ⟨_, h⟩ := h; cases h

end Go.Proofs.Ytnpfbeoibbejeaa
