/- The law ShapeClips of layer 6 holds: for every row of spans, two boxes, and brush the program answers true, and does not panic. No other condition. -/
import Derived.Test.YtoffbkjhoelghaaQCl1x1
import Derived.Test.YtoffbkjhoelghaaRows
namespace Go.Proofs.Ytoffbkjhoelghaa
set_option maxRecDepth 4000
set_option linter.unusedVariables false
set_option linter.unusedSimpArgs false
open Go.RowKit
open Go.ChangeShapes Go.WideShapes Go.ChangeAt Go.Joins Go.Deep
set_option maxRecDepth 20000
theorem clips_walked : Walked 8 [32, 70, 46] := walked_of fun H enc W base args ds p hA hval => by
  obtain ⟨v0, v1, v2, d0, d1, d2, p0, p1, p2, rfl, rfl, rfl, h0, h1, h2⟩ := trodAll_three hA
  obtain ⟨s0, n0, c0, rfl⟩ := okWide_slice Try.underlying32 (hval 0 32 v0 rfl rfl)
  obtain ⟨a0, hx0, ok0, hc0, hm0, hz0⟩ := open_row 4 Go.Proofs.Ytoffbkjhoelghaa.s3 (Go.Proofs.Ytoffbkjhoelghaa.Sp.rng) fits_s3 Try.underlying32 (show flatT Try.prog 4 40 = some [.int .i64, .int .i64, .int .i64] by kernel_rfl) (by kernel_rfl) (by decide) h0
  obtain ⟨a1, ok1, rfl⟩ := open_arrayT 4 bx8 (fun _ => True) fits_bx2 Try.underlying70 (show flatT Try.prog 4 70 = some [.int .i64, .int .i64, .int .i64, .int .i64, .int .i64, .int .i64, .int .i64, .int .i64] by kernel_rfl) (hval 1 70 v1 rfl rfl) h1
  obtain ⟨a2, ok2, rfl⟩ := open_struct 4 brV (fun _ => True) fits_br Try.underlying46 (show flatT Try.prog 4 46 = some [.int .i64, .bool] by kernel_rfl) (hval 2 46 v2 rfl rfl) h2
  exact ⟨[.slf 3 a0.length (a0.flatMap Go.Proofs.Ytoffbkjhoelghaa.s3), .val (.agg (bx8 a1).toArray), .val (.agg (brV a2).toArray)], (reps_cons (rep_row hx0 hc0 hm0 hz0 (fun _ => rfl)) (reps_cons (.val _) (reps_cons (.val _) reps_nil))), clips_d a0 a1.1 a1.2 a2.1 a2.2⟩
theorem clips_holds : Rows.ShapeClipsSaid :=
  OpenClaim.holds_of_wide 8 Try.f8 rfl rfl rfl rfl rfl rfl rfl ⟨rfl, rfl, rfl, rfl, rfl⟩ rfl rfl rfl rfl rfl (by kernel_rfl) Try.func8 (by kernel_rfl)
    (of_decide_eq_true (by kernel_rfl)) (by unfold Func.isWrapper; rw [if_neg (of_decide_eq_false (by kernel_rfl))]; exact ⟨rfl, rfl⟩)
    (fun os started H enc _ => lift_law (s := Rows.shapeClipsSpec) (conds := Rows.shapeClipsRow.domain) started (by kernel_rfl) Try.func8
      (ChangeSpec.witness6 (enc := enc) (C := Try.checked) false ⟨#[], #[.slice none 0 0, .agg #[.int .i64 0, .int .i64 0, .int .i64 0, .int .i64 0, .int .i64 0, .int .i64 0, .int .i64 0, .int .i64 0], .agg #[.int .i64 0, .bool false]], []⟩ 8 (by kernel_rfl) (by kernel_rfl) (by kernel_rfl) (by kernel_rfl))
      [32, 70, 46] 4 (by rw [Try.params8]) (by kernel_rfl) Try.underlying4 (by kernel_rfl) rfl
      (fun ds h => by match ds, h with | [d0, d1, d2], _ => rfl) clips_walked)
end Go.Proofs.Ytoffbkjhoelghaa
