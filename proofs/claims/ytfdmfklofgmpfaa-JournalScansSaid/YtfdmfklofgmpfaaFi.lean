/- arguments that are opened -/
import Derived.Test.YtfdmfklofgmpfaaLs
import Derived.Test.YtfdmfklofgmpfaaLz
import Derived.Test.YtfdmfklofgmpfaaJt
namespace Go.Proofs.Ytfdmfklofgmpfaa
set_option linter.unusedVariables false
set_option linter.unusedSimpArgs false
open Go.RowKit
open Go.ChangeShapes Go.WideShapes Go.ChangeAt Go.Joins Go.Deep

theorem fits_prim_i64 {v : Value} (h : (Prim.int .i64).is v) : ∃ a : Int, (-9223372036854775808 ≤ a ∧ a ≤ 9223372036854775807) ∧ v = .int .i64 a := by
  obtain ⟨x, rfl, w⟩ := h
  exact ⟨x, by simpa [Lit.wf, IntKind.min, IntKind.max, IntKind.signed, IntKind.bits] using w, rfl⟩
theorem nat_u32 {v : Value} (h : (Prim.int .u32).is v) : ∃ a : Nat, a < 2 ^ 32 ∧ v = .int .u32 (a : Int) := by
  obtain ⟨x, rfl, w⟩ := h
  have h1 : 0 ≤ x ∧ x ≤ 4294967295 := by simpa [Lit.wf, IntKind.min, IntKind.max, IntKind.signed, IntKind.bits] using w
  obtain ⟨a, rfl⟩ := Int.eq_ofNat_of_zero_le h1.1
  exact ⟨a, by omega, rfl⟩
theorem nat_u8 {v : Value} (h : (Prim.int .u8).is v) : ∃ a : Nat, a < 256 ∧ v = .int .u8 (a : Int) := by
  obtain ⟨x, rfl, w⟩ := h
  have h1 : 0 ≤ x ∧ x ≤ 255 := by simpa [Lit.wf, IntKind.min, IntKind.max, IntKind.signed, IntKind.bits] using w
  obtain ⟨a, rfl⟩ := Int.eq_ofNat_of_zero_le h1.1
  exact ⟨a, by omega, rfl⟩
theorem fits_prim_u32 {v : Value} (h : (Prim.int .u32).is v) : ∃ a : Int, (0 ≤ a ∧ a < 4294967296) ∧ v = .int .u32 a := by
  obtain ⟨x, w, rfl⟩ := nat_u32 h
  exact ⟨x, by omega, rfl⟩
theorem fits_n8 : ∀ cs, fitsP [.int .u8] cs → ∃ p : Nat, p < 256 ∧ cs = un8 p
  | [c0], h => by
    obtain ⟨h0, _⟩ := h
    obtain ⟨x0, w0, rfl⟩ := nat_u8 h0
    exact ⟨x0, w0, rfl⟩
  | [], h => by cases h
  | _ :: _ :: _, h => by obtain ⟨_, h⟩ := h; cases h

end Go.Proofs.Ytfdmfklofgmpfaa
