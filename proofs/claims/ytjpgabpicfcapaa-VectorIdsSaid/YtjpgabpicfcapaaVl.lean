/- A vector among the arguments, opened: nine numbers in their kind's bounds. -/
import Derived.Test.YtjpgabpicfcapaaLift
import Derived.Test.YtjpgabpicfcapaaV0
import Derived.Lib.SmallJoins
namespace Go.Proofs.Ytjpgabpicfcapaa
open Go.ChangeShapes Go.WideShapes Go.ChangeAt Go.RowKit Go.Joins Go.Deep

theorem fits_u64 {v : Value} (h : Prim.is (.int .u64) v) : ∃ x : Int, (0 ≤ x ∧ x ≤ 18446744073709551615) ∧ v = .int .u64 x := by
  obtain ⟨n, rfl, hw⟩ := h
  exact ⟨n, by simpa [Lit.wf, IntKind.min, IntKind.max, IntKind.signed, IntKind.bits] using hw, rfl⟩
theorem fits_vec : ∀ cs, fitsP (List.replicate 9 (.int .u64)) cs → ∃ v : V, v.rng ∧ cs = vecL v
  | [c0, c1, c2, c3, c4, c5, c6, c7, c8], h => by
    obtain ⟨h0, h1, h2, h3, h4, h5, h6, h7, h8, _⟩ := h
    obtain ⟨x0, r0, rfl⟩ := fits_u64 h0
    obtain ⟨x1, r1, rfl⟩ := fits_u64 h1
    obtain ⟨x2, r2, rfl⟩ := fits_u64 h2
    obtain ⟨x3, r3, rfl⟩ := fits_u64 h3
    obtain ⟨x4, r4, rfl⟩ := fits_u64 h4
    obtain ⟨x5, r5, rfl⟩ := fits_u64 h5
    obtain ⟨x6, r6, rfl⟩ := fits_u64 h6
    obtain ⟨x7, r7, rfl⟩ := fits_u64 h7
    obtain ⟨x8, r8, rfl⟩ := fits_u64 h8
    refine ⟨fun k => match k with | 0 => x0 | 1 => x1 | 2 => x2 | 3 => x3 | 4 => x4 | 5 => x5 | 6 => x6 | 7 => x7 | 8 => x8 | _ => 0, fun k hk => ?_, rfl⟩
    match k, hk with
    | 0, _ => exact r0
    | 1, _ => exact r1
    | 2, _ => exact r2
    | 3, _ => exact r3
    | 4, _ => exact r4
    | 5, _ => exact r5
    | 6, _ => exact r6
    | 7, _ => exact r7
    | 8, _ => exact r8
  | [], h => by cases h
  | [_], h => by obtain ⟨_, h⟩ := h; cases h
  | [_, _], h => by obtain ⟨_, _, h⟩ := h; cases h
  | [_, _, _], h => by obtain ⟨_, _, _, h⟩ := h; cases h
  | [_, _, _, _], h => by obtain ⟨_, _, _, _, h⟩ := h; cases h
  | [_, _, _, _, _], h => by obtain ⟨_, _, _, _, _, h⟩ := h; cases h
  | [_, _, _, _, _, _], h => by obtain ⟨_, _, _, _, _, _, h⟩ := h; cases h
  | [_, _, _, _, _, _, _], h => by obtain ⟨_, _, _, _, _, _, _, h⟩ := h; cases h
  | [_, _, _, _, _, _, _, _], h => by obtain ⟨_, _, _, _, _, _, _, _, h⟩ := h; cases h
  | _ :: _ :: _ :: _ :: _ :: _ :: _ :: _ :: _ :: _ :: _, h => by obtain ⟨_, _, _, _, _, _, _, _, _, h⟩ := h; cases h

theorem open_vec {H : Type} {enc : TypeId × Value → H} {w : World} {base b0 : Nat} {r : Reach} {spare : Nat → Bool} {held : Bool} {v : Value} {d : DataW H} {p : List MemPlace}
    (hv : Value.okWide Try.prog w r b0 24 v) (h : DataW.Trod enc Try.prog w base spare held 24 v d p) :
    ∃ u : V, u.rng ∧ v = vec u := by
  have hu := Try.underlying24
  simp only [Value.okWide, hu] at hv
  obtain ⟨cs, rfl, hsz, _⟩ := hv
  obtain ⟨fuel, hf⟩ := h
  obtain ⟨u, hr, e⟩ := fits_vec _ (flat_trod 3 _ _ _ _ _ (show flatT Try.prog 3 24 = some (List.replicate 9 (.int .u64)) by kernel_rfl) hf)
  refine ⟨u, hr, ?_⟩
  have e2 : cs.toList = vecL u := e
  rw [show cs = vecA u from Array.toList_inj.1 e2]
end Go.Proofs.Ytjpgabpicfcapaa
