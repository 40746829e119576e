/- arguments that are opened -/
import Derived.Test.YtaekkjhpdendoaaDoorLs
import Derived.Test.YtaekkjhpdendoaaDoorGm
namespace Go.Proofs.YtaekkjhpdendoaaDoor
set_option linter.unusedVariables false
set_option linter.unusedSimpArgs false
open Go.RowKit
open Go.ChangeShapes Go.WideShapes Go.ChangeAt Go.Joins Go.Deep

theorem fits_t3 : ∀ cs, fitsP [.int .i64, .bool, .int .u64] cs → ∃ x : T3, x.rng ∧ cs = t3c x
  | [c0, c1, c2], h => by
    obtain ⟨h0, h1, h2, _⟩ := h
    obtain ⟨x0, rfl, _⟩ := h0
    obtain ⟨x1, rfl⟩ := h1
    obtain ⟨x2, rfl, w2⟩ := h2
    have r2 : 0 ≤ x2 ∧ x2 ≤ 18446744073709551615 := by simpa [Lit.wf, IntKind.min, IntKind.max, IntKind.signed, IntKind.bits] using w2
    exact ⟨⟨x0, x1, x2⟩, r2, rfl⟩
  | [], h => by cases h
  | [_], h => by obtain ⟨_, h⟩ := h; cases h
  | [_, _], h => by obtain ⟨_, _, h⟩ := h; cases h
  | _ :: _ :: _ :: _ :: _, h => by obtain ⟨_, _, _, h⟩ := h; cases h

end Go.Proofs.YtaekkjhpdendoaaDoor
