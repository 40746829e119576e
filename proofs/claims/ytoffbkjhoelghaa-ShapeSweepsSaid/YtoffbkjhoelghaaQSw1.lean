/- The law ShapeSweeps of layer 6 holds: for every row of places, and brush the program answers true, and does not panic. No other condition. -/
import Derived.Test.YtoffbkjhoelghaaQSw1x1
import Derived.Test.YtoffbkjhoelghaaRows
namespace Go.Proofs.Ytoffbkjhoelghaa
set_option maxRecDepth 4000
set_option linter.unusedVariables false
set_option linter.unusedSimpArgs false
open Go.RowKit
open Go.ChangeShapes Go.WideShapes Go.ChangeAt Go.Joins Go.Deep
set_option maxRecDepth 20000
theorem sweeps_walked : Walked 4 [28, 46] := walked_of fun H enc W base args ds p hA hval => by
  obtain ⟨v0, v1, d0, d1, p0, p1, rfl, rfl, rfl, h0, h1⟩ := trodAll_two hA
  obtain ⟨s0, n0, c0, rfl⟩ := okWide_slice Try.underlying28 (hval 0 28 v0 rfl rfl)
  obtain ⟨a0, hx0, ok0, hc0, hm0, hz0⟩ := open_row 4 Go.Proofs.Ytoffbkjhoelghaa.p2 (Go.Proofs.Ytoffbkjhoelghaa.P2.rng) fits_p2 Try.underlying28 (show flatT Try.prog 4 25 = some [.int .i64, .int .i64] by kernel_rfl) (by kernel_rfl) (by decide) h0
  obtain ⟨a1, ok1, rfl⟩ := open_struct 4 brV (fun _ => True) fits_br Try.underlying46 (show flatT Try.prog 4 46 = some [.int .i64, .bool] by kernel_rfl) (hval 1 46 v1 rfl rfl) h1
  exact ⟨[.slf 2 a0.length (a0.flatMap Go.Proofs.Ytoffbkjhoelghaa.p2), .val (.agg (brV a1).toArray)], (reps_cons (rep_row hx0 hc0 hm0 hz0 (fun _ => rfl)) (reps_cons (.val _) reps_nil)), sweeps_d a0 a1.1 a1.2⟩
theorem sweeps_holds : Rows.ShapeSweepsSaid :=
  OpenClaim.holds_of_wide 4 Try.f4 rfl rfl rfl rfl rfl rfl rfl ⟨rfl, rfl, rfl, rfl, rfl⟩ rfl rfl rfl rfl rfl (by kernel_rfl) Try.func4 (by kernel_rfl)
    (of_decide_eq_true (by kernel_rfl)) (by unfold Func.isWrapper; rw [if_neg (of_decide_eq_false (by kernel_rfl))]; exact ⟨rfl, rfl⟩)
    (fun os started H enc _ => lift_law (s := Rows.shapeSweepsSpec) (conds := Rows.shapeSweepsRow.domain) started (by kernel_rfl) Try.func4
      (ChangeSpec.witness6 (enc := enc) (C := Try.checked) false ⟨#[], #[.slice none 0 0, .agg #[.int .i64 0, .bool false]], []⟩ 8 (by kernel_rfl) (by kernel_rfl) (by kernel_rfl) (by kernel_rfl))
      [28, 46] 4 (by rw [Try.params4]) (by kernel_rfl) Try.underlying4 (by kernel_rfl) rfl
      (fun ds h => by match ds, h with | [d0, d1], _ => rfl) sweeps_walked)
end Go.Proofs.Ytoffbkjhoelghaa
