/- arguments that are opened -/
import Derived.Test.YtfdekahbojoodaaLs
import Derived.Test.YtfdekahbojoodaaOz
namespace Go.Proofs.Ytfdekahbojoodaa
set_option linter.unusedVariables false
set_option linter.unusedSimpArgs false
open Go.RowKit
open Go.ChangeShapes Go.WideShapes Go.ChangeAt Go.Joins Go.Deep

theorem fits_prim_i64 {v : Value} (h : (Prim.int .i64).is v) : ∃ a : Int, True ∧ v = .int .i64 a := h.elim fun n hn => ⟨n, trivial, hn.1⟩
theorem fits_prim_u64 {v : Value} (h : (Prim.int .u64).is v) : ∃ a : Int, (0 ≤ a ∧ a ≤ 18446744073709551615) ∧ v = .int .u64 a := by
  obtain ⟨x, rfl, w⟩ := h
  exact ⟨x, by simpa [Lit.wf, IntKind.min, IntKind.max, IntKind.signed, IntKind.bits] using w, rfl⟩
theorem fits_u8 : ∀ cs, fitsP [.int .u8] cs → ∃ p : Int, (0 ≤ p ∧ p ≤ 255) ∧ cs = uc8 p
  | [c0], h => by
    obtain ⟨h0, _⟩ := h
    obtain ⟨x0, rfl, w0⟩ := h0
    exact ⟨x0, by simpa [Lit.wf, IntKind.min, IntKind.max, IntKind.signed, IntKind.bits] using w0, rfl⟩
  | [], h => by cases h
  | _ :: _ :: _, h => by obtain ⟨_, h⟩ := h; cases h
theorem fits_u64 : ∀ cs, fitsP [.int .u64] cs → ∃ p : Int, (0 ≤ p ∧ p ≤ 18446744073709551615) ∧ cs = uc p
  | [c0], h => by
    obtain ⟨h0, _⟩ := h
    obtain ⟨x0, rfl, w0⟩ := h0
    exact ⟨x0, by simpa [Lit.wf, IntKind.min, IntKind.max, IntKind.signed, IntKind.bits] using w0, rfl⟩
  | [], h => by cases h
  | _ :: _ :: _, h => by obtain ⟨_, h⟩ := h; cases h
theorem fits_i64 : ∀ cs, fitsP [.int .i64] cs → ∃ p : Int, (-9223372036854775808 ≤ p ∧ p ≤ 9223372036854775807) ∧ cs = ic p
  | [c0], h => by
    obtain ⟨h0, _⟩ := h
    obtain ⟨x0, rfl, w0⟩ := h0
    exact ⟨x0, by simpa [Lit.wf, IntKind.min, IntKind.max, IntKind.signed, IntKind.bits] using w0, rfl⟩
  | [], h => by cases h
  | _ :: _ :: _, h => by obtain ⟨_, h⟩ := h; cases h

theorem fits_nm : ∀ cs, fitsP [.int .i64, .int .i64, .int .u64] cs → ∃ p : Nm, p.rng ∧ cs = nm3 p
  | [c0, c1, c2], h => by
    obtain ⟨h0, h1, h2, _⟩ := h
    obtain ⟨x0, rfl, w0⟩ := h0
    obtain ⟨x1, rfl, w1⟩ := h1
    obtain ⟨x2, rfl, w2⟩ := h2
    exact ⟨⟨x0, x1, x2⟩, ⟨by simpa [Lit.wf, IntKind.min, IntKind.max, IntKind.signed, IntKind.bits] using w0, by simpa [Lit.wf, IntKind.min, IntKind.max, IntKind.signed, IntKind.bits] using w1, by simpa [Lit.wf, IntKind.min, IntKind.max, IntKind.signed, IntKind.bits] using w2⟩, rfl⟩
  | [], h => by cases h
  | [_], h => by obtain ⟨_, h⟩ := h; cases h
  | [_, _], h => by obtain ⟨_, _, h⟩ := h; cases h
  | _ :: _ :: _ :: _ :: _, h => by obtain ⟨_, _, _, h⟩ := h; cases h

end Go.Proofs.Ytfdekahbojoodaa
