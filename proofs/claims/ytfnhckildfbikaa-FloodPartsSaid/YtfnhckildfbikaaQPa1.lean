/- The law FloodParts of layer 8 holds: for every canvas, and row of tolerances the program answers true, and does not panic. No other condition. -/
import Derived.Test.YtfnhckildfbikaaQPa1x1
import Derived.Test.YtfnhckildfbikaaRows
namespace Go.Proofs.Ytfnhckildfbikaa
set_option maxRecDepth 4000
set_option linter.unusedVariables false
set_option linter.unusedSimpArgs false
open Go.RowKit
open Go.ChangeShapes Go.WideShapes Go.ChangeAt Go.Joins Go.Deep
set_option maxRecDepth 20000
theorem fparts_walked : Walked 4 [24, 55] := walked_of fun H enc W base args ds p hA hval => by
  obtain ⟨v0, v1, d0, d1, p0, p1, rfl, rfl, rfl, h0, h1⟩ := trodAll_two hA
  obtain ⟨a0, ok0, r0⟩ := open_agg (mk := shL) (ok := fun a => tsRng a.2.2) Try.underlying24 (opens_cv) (hval 0 24 v0 rfl rfl) h0
  obtain ⟨s1, n1, c1, rfl⟩ := okWide_slice Try.underlying55 (hval 1 55 v1 rfl rfl)
  obtain ⟨a1, hx1, ok1, hc1, hm1, hz1⟩ := open_row 4 Go.Proofs.Ytfnhckildfbikaa.iV (fun _ : Int => True) fits_iv Try.underlying55 (show flatT Try.prog 4 3 = some [.int .i64] by kernel_rfl) (by kernel_rfl) (by decide) h1
  exact ⟨[.agg ((shL) a0), .slf 1 a1.length (a1.flatMap Go.Proofs.Ytfnhckildfbikaa.iV)], (reps_cons r0 (reps_cons (rep_row hx1 hc1 hm1 hz1 (fun _ => rfl)) reps_nil)), fparts_d a0.1 a0.2.1 a0.2.2 ok0 a1⟩
theorem fparts_holds : Rows.FloodPartsSaid :=
  OpenClaim.holds_of_wide 4 Try.f4 rfl rfl rfl rfl rfl rfl rfl ⟨rfl, rfl, rfl, rfl, rfl⟩ rfl rfl rfl rfl rfl (by kernel_rfl) Try.func4 (by kernel_rfl)
    (of_decide_eq_true (by kernel_rfl)) (by unfold Func.isWrapper; rw [if_neg (of_decide_eq_false (by kernel_rfl))]; exact ⟨rfl, rfl⟩)
    (fun os started H enc _ => lift_law (s := Rows.floodPartsSpec) (conds := Rows.floodPartsRow.domain) started (by kernel_rfl) Try.func4
      (ChangeSpec.witness6 (enc := enc) (C := Try.checked) false ⟨#[], #[.agg #[.int .i64 0, .int .i64 0, .slice none 0 0], .slice none 0 0], []⟩ 8 (by kernel_rfl) (by kernel_rfl) (by kernel_rfl) (by kernel_rfl))
      [24, 55] 4 (by rw [Try.params4]) (by kernel_rfl) Try.underlying4 (by kernel_rfl) rfl
      (fun ds h => by match ds, h with | [d0, d1], _ => rfl) fparts_walked)
end Go.Proofs.Ytfnhckildfbikaa
