/- The law RunsTiles of layer 10 holds: for every row of tiles, and bytes the program answers true, and does not panic. No other condition. -/
import Derived.Test.YtcbfnbfhlofkiaaQFt1x1
import Derived.Test.YtcbfnbfhlofkiaaRows
namespace Go.Proofs.Ytcbfnbfhlofkiaa
set_option maxRecDepth 4000
set_option linter.unusedVariables false
set_option linter.unusedSimpArgs false
open Go.RowKit
open Go.ChangeShapes Go.WideShapes Go.ChangeAt Go.Joins Go.Deep
set_option maxRecDepth 20000
theorem wtiles_walked : Walked 3 [22, 23] := walked_of fun H enc W base args ds p hA hval => by
  obtain ⟨v0, v1, d0, d1, p0, p1, rfl, rfl, rfl, h0, h1⟩ := trodAll_two hA
  obtain ⟨s0, n0, c0, rfl⟩ := okWide_slice Try.underlying22 (hval 0 22 v0 rfl rfl)
  obtain ⟨a0, ok0, r0⟩ := open_any (mk := fun l : List TL => .slf 256 l.length (l.flatMap tc)) (ok := fun l => ∀ x ∈ l, ∀ c ∈ x.l, c.rng) (opens_tls) rfl h0
  obtain ⟨s1, n1, c1, rfl⟩ := okWide_slice Try.underlying23 (hval 1 23 v1 rfl rfl)
  obtain ⟨a1, hx1, ok1, hc1, hm1, hz1⟩ := open_row 4 u8V (fun n : Int => 0 ≤ n ∧ n ≤ 255) fits_u8V Try.underlying23 (show flatT Try.prog 4 5 = some [.int .u8] by kernel_rfl) (by kernel_rfl) (by decide) h1
  exact ⟨[(fun l : List TL => .slf 256 l.length (l.flatMap tc)) a0, .slf 1 a1.length (a1.flatMap u8V)], (reps_cons r0 (reps_cons (rep_row hx1 hc1 hm1 hz1 (fun _ => rfl)) reps_nil)), rtiles_d a0 a1 ok1⟩
theorem wtiles_holds : Rows.RunsTilesSaid :=
  OpenClaim.holds_of_wide 3 Try.f3 rfl rfl rfl rfl rfl rfl rfl ⟨rfl, rfl, rfl, rfl, rfl⟩ rfl rfl rfl rfl rfl (by kernel_rfl) Try.func3 (by kernel_rfl)
    (of_decide_eq_true (by kernel_rfl)) (by unfold Func.isWrapper; rw [if_neg (of_decide_eq_false (by kernel_rfl))]; exact ⟨rfl, rfl⟩)
    (fun os started H enc _ => lift_law (s := Rows.runsTilesSpec) (conds := Rows.runsTilesRow.domain) started (by kernel_rfl) Try.func3
      (ChangeSpec.witness6 (enc := enc) (C := Try.checked) false ⟨#[], #[.slice none 0 0, .slice none 0 0], []⟩ 8 (by kernel_rfl) (by kernel_rfl) (by kernel_rfl) (by kernel_rfl))
      [22, 23] 4 (by rw [Try.params3]) (by kernel_rfl) Try.underlying4 (by kernel_rfl) rfl
      (fun ds h => by match ds, h with | [d0, d1], _ => rfl) wtiles_walked)
end Go.Proofs.Ytcbfnbfhlofkiaa
