/- The law CanvasDots of layer 5 holds: for every canvas, row of dots, and colour the program answers true, and does not panic. No other condition. -/
import Derived.Test.YtkhlobbkoodkmaaQKw2x1
import Derived.Test.YtkhlobbkoodkmaaRows
namespace Go.Proofs.Ytkhlobbkoodkmaa
set_option linter.unusedVariables false
set_option linter.unusedSimpArgs false
open Go.RowKit
open Go.ChangeShapes Go.WideShapes Go.ChangeAt Go.Joins Go.Deep
set_option maxRecDepth 20000
theorem bdots_walked : Walked 4 [24, 60, 40] := walked_of fun H enc W base args ds p hA hval => by
  obtain ⟨v0, v1, v2, d0, d1, d2, p0, p1, p2, rfl, rfl, rfl, h0, h1, h2⟩ := trodAll_three hA
  obtain ⟨a0, ok0, r0⟩ := open_agg (mk := shL) (ok := fun _ => True) Try.underlying24 (opens_cv) (hval 0 24 v0 rfl rfl) h0
  obtain ⟨s1, n1, c1, rfl⟩ := okWide_slice Try.underlying60 (hval 1 60 v1 rfl rfl)
  obtain ⟨a1, hx1, ok1, hc1, hm1, hz1⟩ := open_row 4 dtC (fun _ => True) fits_dt Try.underlying60 (show flatT Try.prog 4 47 = some kD by kernel_rfl) (by kernel_rfl) (by decide) h1
  obtain ⟨a2, ok2, rfl⟩ := open_struct 4 c4 (fun _ => True) fits_c4 Try.underlying40 (show flatT Try.prog 4 40 = some [.int .u8, .int .u8, .int .u8, .int .u8] by kernel_rfl) (hval 2 40 v2 rfl rfl) h2
  exact ⟨[.agg ((shL) a0), .slf 6 a1.length (a1.flatMap dtC), .val (.agg (c4 a2).toArray)], (reps_cons r0 (reps_cons (rep_row hx1 hc1 hm1 hz1 (fun _ => rfl)) (reps_cons (.val _) reps_nil))), dots_d a0.1 a0.2.1 a0.2.2 a1 a2⟩
theorem bdots_holds : Rows.CanvasDotsSaid :=
  OpenClaim.holds_of_wide 4 Try.f4 rfl rfl rfl rfl rfl rfl rfl ⟨rfl, rfl, rfl, rfl, rfl⟩ rfl rfl rfl rfl rfl (by kernel_rfl) Try.func4 (by kernel_rfl)
    (of_decide_eq_true (by kernel_rfl)) (by unfold Func.isWrapper; rw [if_neg (of_decide_eq_false (by kernel_rfl))]; exact ⟨rfl, rfl⟩)
    (fun os started H enc _ => lift_law (s := Rows.canvasDotsSpec) (conds := Rows.canvasDotsRow.domain) started (by kernel_rfl) Try.func4
      (ChangeSpec.witness6 (enc := enc) (C := Try.checked) false ⟨#[], #[.agg #[.int .i64 0, .int .i64 0, .slice none 0 0], .slice none 0 0, .agg #[.int .u8 0, .int .u8 0, .int .u8 0, .int .u8 0]], []⟩ 8 (by kernel_rfl) (by kernel_rfl) (by kernel_rfl) (by kernel_rfl))
      [24, 60, 40] 4 (by rw [Try.params4]) (by kernel_rfl) Try.underlying4 (by kernel_rfl) rfl
      (fun ds h => by match ds, h with | [d0, d1, d2], _ => rfl) bdots_walked)
end Go.Proofs.Ytkhlobbkoodkmaa
