/- arguments that are opened -/
import Derived.Test.YthagnobjbpmneaaLs
import Derived.Test.YthagnobjbpmneaaIt
namespace Go.Proofs.Ythagnobjbpmneaa
set_option linter.unusedVariables false
set_option linter.unusedSimpArgs false
open Go.RowKit
open Go.ChangeShapes Go.WideShapes Go.ChangeAt Go.Joins Go.Deep

theorem fits_c4 : ∀ cs, fitsP [.int .u8, .int .u8, .int .u8, .int .u8] cs → ∃ c : C4, True ∧ cs = c4 c
  | [c0, c1, c2, c3], h => by
    obtain ⟨h0, h1, h2, h3, _⟩ := h
    obtain ⟨x0, rfl, _⟩ := h0
    obtain ⟨x1, rfl, _⟩ := h1
    obtain ⟨x2, rfl, _⟩ := h2
    obtain ⟨x3, rfl, _⟩ := h3
    exact ⟨⟨x0, x1, x2, x3⟩, trivial, rfl⟩
  | [], h => by cases h
  | [_], h => by obtain ⟨_, h⟩ := h; cases h
  | [_, _], h => by obtain ⟨_, _, h⟩ := h; cases h
  | [_, _, _], h => by obtain ⟨_, _, _, h⟩ := h; cases h
  | _ :: _ :: _ :: _ :: _ :: _, h => by obtain ⟨_, _, _, _, h⟩ := h; cases h
theorem fits_p2 : ∀ cs, fitsP [.int .i64, .int .i64] cs → ∃ p : P2, p.rng ∧ cs = p2 p
  | [c0, c1], h => by
    obtain ⟨h0, h1, _⟩ := h
    obtain ⟨x0, rfl, w0⟩ := h0
    obtain ⟨x1, rfl, w1⟩ := h1
    have r0 : -9223372036854775808 ≤ x0 ∧ x0 ≤ 9223372036854775807 := by simpa [Lit.wf, IntKind.min, IntKind.max, IntKind.signed, IntKind.bits] using w0
    have r1 : -9223372036854775808 ≤ x1 ∧ x1 ≤ 9223372036854775807 := by simpa [Lit.wf, IntKind.min, IntKind.max, IntKind.signed, IntKind.bits] using w1
    exact ⟨⟨x0, x1⟩, ⟨r0, r1⟩, rfl⟩
  | [], h => by cases h
  | [_], h => by obtain ⟨_, h⟩ := h; cases h
  | _ :: _ :: _ :: _, h => by obtain ⟨_, _, h⟩ := h; cases h
theorem fits_cs : ∀ (n : Nat) (cs : List Value), fitsP (List.replicate n [.int .u8, .int .u8, .int .u8, .int .u8]).flatten cs → ∃ l : List C4, l.length = n ∧ cs = l.flatMap c4
  | 0, [], _ => ⟨[], rfl, rfl⟩
  | 0, _ :: _, h => by cases h
  | n + 1, c0 :: c1 :: c2 :: c3 :: cs, h => by
    rw [List.replicate_succ, List.flatten_cons] at h
    obtain ⟨h0, h1, h2, h3, h4⟩ := h
    obtain ⟨x0, rfl, _⟩ := h0
    obtain ⟨x1, rfl, _⟩ := h1
    obtain ⟨x2, rfl, _⟩ := h2
    obtain ⟨x3, rfl, _⟩ := h3
    obtain ⟨l, hl, rfl⟩ := fits_cs n cs h4
    exact ⟨⟨x0, x1, x2, x3⟩ :: l, by rw [List.length_cons, hl], rfl⟩
  | n + 1, [], h => by rw [List.replicate_succ, List.flatten_cons] at h; cases h
  | n + 1, [_], h => by rw [List.replicate_succ, List.flatten_cons] at h; obtain ⟨_, h⟩ := h; cases h
  | n + 1, [_, _], h => by rw [List.replicate_succ, List.flatten_cons] at h; obtain ⟨_, _, h⟩ := h; cases h
  | n + 1, [_, _, _], h => by rw [List.replicate_succ, List.flatten_cons] at h; obtain ⟨_, _, _, h⟩ := h; cases h
theorem fits_tl (cs : List Value) (h : fitsP (List.replicate 64 [.int .u8, .int .u8, .int .u8, .int .u8]).flatten cs) : ∃ t : TL, True ∧ cs = tc t := by
  obtain ⟨l, hl, rfl⟩ := fits_cs 64 cs h
  exact ⟨⟨l, hl⟩, trivial, rfl⟩

theorem fits_prim_i64 {v : Value} (h : (Prim.int .i64).is v) : ∃ a : Int, True ∧ v = .int .i64 a := h.elim fun n hn => ⟨n, trivial, hn.1⟩

end Go.Proofs.Ythagnobjbpmneaa
