/- The law FloodSteps of layer 8 holds: for every canvas, place with a tolerance, and place the program answers true, and does not panic. No other condition. -/
import Derived.Test.YtfnhckildfbikaaQSb1x1
import Derived.Test.YtfnhckildfbikaaRows
namespace Go.Proofs.Ytfnhckildfbikaa
set_option maxRecDepth 4000
set_option linter.unusedVariables false
set_option linter.unusedSimpArgs false
open Go.RowKit
open Go.ChangeShapes Go.WideShapes Go.ChangeAt Go.Joins Go.Deep
set_option maxRecDepth 20000
theorem fsteps_walked : Walked 6 [24, 32, 34] := walked_of fun H enc W base args ds p hA hval => by
  obtain ⟨v0, v1, v2, d0, d1, d2, p0, p1, p2, rfl, rfl, rfl, h0, h1, h2⟩ := trodAll_three hA
  obtain ⟨a0, ok0, r0⟩ := open_agg (mk := shL) (ok := fun a => tsRng a.2.2) Try.underlying24 (opens_cv) (hval 0 24 v0 rfl rfl) h0
  obtain ⟨a1, ok1, rfl⟩ := open_arrayT 4 Go.Proofs.Ytfnhckildfbikaa.q3 (fun a : Int × Int × Int => (-9223372036854775808 ≤ a.1 ∧ a.1 ≤ 9223372036854775807) ∧ (-9223372036854775808 ≤ a.2.1 ∧ a.2.1 ≤ 9223372036854775807) ∧ -9223372036854775808 ≤ a.2.2 ∧ a.2.2 ≤ 9223372036854775807) fits_q3 Try.underlying32 (show flatT Try.prog 4 32 = some [.int .i64, .int .i64, .int .i64] by kernel_rfl) (hval 1 32 v1 rfl rfl) h1
  obtain ⟨a2, ok2, rfl⟩ := open_struct 4 Go.Proofs.Ytfnhckildfbikaa.p2 (Go.Proofs.Ytfnhckildfbikaa.P2.rng) fits_p2 Try.underlying34 (show flatT Try.prog 4 34 = some [.int .i64, .int .i64] by kernel_rfl) (hval 2 34 v2 rfl rfl) h2
  exact ⟨[.agg ((shL) a0), .val (.agg (Go.Proofs.Ytfnhckildfbikaa.q3 a1).toArray), .val (.agg (Go.Proofs.Ytfnhckildfbikaa.p2 a2).toArray)], (reps_cons r0 (reps_cons (.val _) (reps_cons (.val _) reps_nil))), fsteps_d a0.1 a0.2.1 a0.2.2 ok0 ⟨a1.1, a1.2.1⟩ a2 a1.2.2⟩
theorem fsteps_holds : Rows.FloodStepsSaid :=
  OpenClaim.holds_of_wide 6 Try.f6 rfl rfl rfl rfl rfl rfl rfl ⟨rfl, rfl, rfl, rfl, rfl⟩ rfl rfl rfl rfl rfl (by kernel_rfl) Try.func6 (by kernel_rfl)
    (of_decide_eq_true (by kernel_rfl)) (by unfold Func.isWrapper; rw [if_neg (of_decide_eq_false (by kernel_rfl))]; exact ⟨rfl, rfl⟩)
    (fun os started H enc _ => lift_law (s := Rows.floodStepsSpec) (conds := Rows.floodStepsRow.domain) started (by kernel_rfl) Try.func6
      (ChangeSpec.witness6 (enc := enc) (C := Try.checked) false ⟨#[], #[.agg #[.int .i64 0, .int .i64 0, .slice none 0 0], .agg #[.int .i64 0, .int .i64 0, .int .i64 0], .agg #[.int .i64 0, .int .i64 0]], []⟩ 8 (by kernel_rfl) (by kernel_rfl) (by kernel_rfl) (by kernel_rfl))
      [24, 32, 34] 4 (by rw [Try.params6]) (by kernel_rfl) Try.underlying4 (by kernel_rfl) rfl
      (fun ds h => by match ds, h with | [d0, d1, d2], _ => rfl) fsteps_walked)
end Go.Proofs.Ytfnhckildfbikaa
