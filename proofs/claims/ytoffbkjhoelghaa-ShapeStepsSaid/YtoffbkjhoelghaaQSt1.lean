/- The law ShapeSteps of layer 6 holds: for every two places the program answers true, and does not panic. No other condition. -/
import Derived.Test.YtoffbkjhoelghaaQSt1x1
import Derived.Test.YtoffbkjhoelghaaRows
namespace Go.Proofs.Ytoffbkjhoelghaa
set_option maxRecDepth 4000
set_option linter.unusedVariables false
set_option linter.unusedSimpArgs false
open Go.RowKit
open Go.ChangeShapes Go.WideShapes Go.ChangeAt Go.Joins Go.Deep
set_option maxRecDepth 20000
theorem steps_walked : Walked 6 [25, 25] := walked_of fun H enc W base args ds p hA hval => by
  obtain ⟨v0, v1, d0, d1, p0, p1, rfl, rfl, rfl, h0, h1⟩ := trodAll_two hA
  obtain ⟨a0, ok0, rfl⟩ := open_struct 4 Go.Proofs.Ytoffbkjhoelghaa.p2 (Go.Proofs.Ytoffbkjhoelghaa.P2.rng) fits_p2 Try.underlying25 (show flatT Try.prog 4 25 = some [.int .i64, .int .i64] by kernel_rfl) (hval 0 25 v0 rfl rfl) h0
  obtain ⟨a1, ok1, rfl⟩ := open_struct 4 Go.Proofs.Ytoffbkjhoelghaa.p2 (Go.Proofs.Ytoffbkjhoelghaa.P2.rng) fits_p2 Try.underlying25 (show flatT Try.prog 4 25 = some [.int .i64, .int .i64] by kernel_rfl) (hval 1 25 v1 rfl rfl) h1
  exact ⟨[.val (.agg (Go.Proofs.Ytoffbkjhoelghaa.p2 a0).toArray), .val (.agg (Go.Proofs.Ytoffbkjhoelghaa.p2 a1).toArray)], (reps_cons (.val _) (reps_cons (.val _) reps_nil)), steps_d a0 a1⟩
theorem steps_holds : Rows.ShapeStepsSaid :=
  OpenClaim.holds_of_wide 6 Try.f6 rfl rfl rfl rfl rfl rfl rfl ⟨rfl, rfl, rfl, rfl, rfl⟩ rfl rfl rfl rfl rfl (by kernel_rfl) Try.func6 (by kernel_rfl)
    (of_decide_eq_true (by kernel_rfl)) (by unfold Func.isWrapper; rw [if_neg (of_decide_eq_false (by kernel_rfl))]; exact ⟨rfl, rfl⟩)
    (fun os started H enc _ => lift_law (s := Rows.shapeStepsSpec) (conds := Rows.shapeStepsRow.domain) started (by kernel_rfl) Try.func6
      (ChangeSpec.witness6 (enc := enc) (C := Try.checked) false ⟨#[], #[.agg #[.int .i64 0, .int .i64 0], .agg #[.int .i64 0, .int .i64 0]], []⟩ 8 (by kernel_rfl) (by kernel_rfl) (by kernel_rfl) (by kernel_rfl))
      [25, 25] 4 (by rw [Try.params6]) (by kernel_rfl) Try.underlying4 (by kernel_rfl) rfl
      (fun ds h => by match ds, h with | [d0, d1], _ => rfl) steps_walked)
end Go.Proofs.Ytoffbkjhoelghaa
