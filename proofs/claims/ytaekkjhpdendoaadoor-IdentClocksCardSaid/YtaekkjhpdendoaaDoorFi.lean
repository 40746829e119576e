/- arguments that are opened -/
import Derived.Test.YtaekkjhpdendoaaDoorLs
import Derived.Test.YtaekkjhpdendoaaDoorIt
namespace Go.Proofs.YtaekkjhpdendoaaDoor
set_option linter.unusedVariables false
set_option linter.unusedSimpArgs false
open Go.RowKit
open Go.ChangeShapes Go.WideShapes Go.ChangeAt Go.Joins Go.Deep

theorem fits_id : ∀ cs, fitsP [.int .u64, .int .i64, .int .u64] cs → ∃ i : I3, True ∧ cs = idc i
  | [c0, c1, c2], h => by
    obtain ⟨h0, h1, h2, _⟩ := h
    obtain ⟨x0, rfl, _⟩ := h0
    obtain ⟨x1, rfl, _⟩ := h1
    obtain ⟨x2, rfl, _⟩ := h2
    exact ⟨⟨x0, x1, x2⟩, trivial, rfl⟩
  | [], h => by cases h
  | [_], h => by obtain ⟨_, h⟩ := h; cases h
  | [_, _], h => by obtain ⟨_, _, h⟩ := h; cases h
  | _ :: _ :: _ :: _ :: _, h => by obtain ⟨_, _, _, h⟩ := h; cases h

theorem fits_ck : ∀ cs, fitsP [.int .i64, .int .u64, .int .u64] cs → ∃ i : C3, i.rng ∧ cs = ckc i
  | [c0, c1, c2], h => by
    obtain ⟨h0, h1, h2, _⟩ := h
    obtain ⟨x0, rfl, _⟩ := h0
    obtain ⟨x1, rfl, w1⟩ := h1
    obtain ⟨x2, rfl, w2⟩ := h2
    have r1 : 0 ≤ x1 ∧ x1 ≤ 18446744073709551615 := by simpa [Lit.wf, IntKind.min, IntKind.max, IntKind.signed, IntKind.bits] using w1
    have r2 : 0 ≤ x2 ∧ x2 ≤ 18446744073709551615 := by simpa [Lit.wf, IntKind.min, IntKind.max, IntKind.signed, IntKind.bits] using w2
    exact ⟨⟨x0, x1, x2⟩, ⟨r1.1, r2.1⟩, rfl⟩
  | [], h => by cases h
  | [_], h => by obtain ⟨_, h⟩ := h; cases h
  | [_, _], h => by obtain ⟨_, _, h⟩ := h; cases h
  | _ :: _ :: _ :: _ :: _, h => by obtain ⟨_, _, _, h⟩ := h; cases h
theorem fits_u : ∀ cs, fitsP [.int .u64] cs → ∃ x : Int, (0 ≤ x ∧ x ≤ 18446744073709551615) ∧ cs = uc x
  | [v], h => by
    obtain ⟨⟨n, rfl, hw⟩, _⟩ := h
    exact ⟨n, by simpa [Lit.wf, IntKind.min, IntKind.max, IntKind.signed, IntKind.bits] using hw, rfl⟩
  | [], h => by cases h
  | _ :: _ :: _, h => by cases h.2

end Go.Proofs.YtaekkjhpdendoaaDoor
