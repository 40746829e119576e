/- The law ShapeUnions of layer 6 holds: for every two rows of spans, and place the program answers true, and does not panic. No other condition. -/
import Derived.Test.YtoffbkjhoelghaaQUn1x1
import Derived.Test.YtoffbkjhoelghaaRows
namespace Go.Proofs.Ytoffbkjhoelghaa
set_option maxRecDepth 4000
set_option linter.unusedVariables false
set_option linter.unusedSimpArgs false
open Go.RowKit
open Go.ChangeShapes Go.WideShapes Go.ChangeAt Go.Joins Go.Deep
set_option maxRecDepth 20000
theorem unions_walked : Walked 7 [32, 32, 25] := walked_of fun H enc W base args ds p hA hval => by
  obtain ⟨v0, v1, v2, d0, d1, d2, p0, p1, p2, rfl, rfl, rfl, h0, h1, h2⟩ := trodAll_three hA
  obtain ⟨s0, n0, c0, rfl⟩ := okWide_slice Try.underlying32 (hval 0 32 v0 rfl rfl)
  obtain ⟨a0, hx0, ok0, hc0, hm0, hz0⟩ := open_row 4 Go.Proofs.Ytoffbkjhoelghaa.s3 (Go.Proofs.Ytoffbkjhoelghaa.Sp.rng) fits_s3 Try.underlying32 (show flatT Try.prog 4 40 = some [.int .i64, .int .i64, .int .i64] by kernel_rfl) (by kernel_rfl) (by decide) h0
  obtain ⟨s1, n1, c1, rfl⟩ := okWide_slice Try.underlying32 (hval 1 32 v1 rfl rfl)
  obtain ⟨a1, hx1, ok1, hc1, hm1, hz1⟩ := open_row 4 Go.Proofs.Ytoffbkjhoelghaa.s3 (Go.Proofs.Ytoffbkjhoelghaa.Sp.rng) fits_s3 Try.underlying32 (show flatT Try.prog 4 40 = some [.int .i64, .int .i64, .int .i64] by kernel_rfl) (by kernel_rfl) (by decide) h1
  obtain ⟨a2, ok2, rfl⟩ := open_struct 4 Go.Proofs.Ytoffbkjhoelghaa.p2 (Go.Proofs.Ytoffbkjhoelghaa.P2.rng) fits_p2 Try.underlying25 (show flatT Try.prog 4 25 = some [.int .i64, .int .i64] by kernel_rfl) (hval 2 25 v2 rfl rfl) h2
  exact ⟨[.slf 3 a0.length (a0.flatMap Go.Proofs.Ytoffbkjhoelghaa.s3), .slf 3 a1.length (a1.flatMap Go.Proofs.Ytoffbkjhoelghaa.s3), .val (.agg (Go.Proofs.Ytoffbkjhoelghaa.p2 a2).toArray)], (reps_cons (rep_row hx0 hc0 hm0 hz0 (fun _ => rfl)) (reps_cons (rep_row hx1 hc1 hm1 hz1 (fun _ => rfl)) (reps_cons (.val _) reps_nil))), unions_d a0 a1 a2⟩
theorem unions_holds : Rows.ShapeUnionsSaid :=
  OpenClaim.holds_of_wide 7 Try.f7 rfl rfl rfl rfl rfl rfl rfl ⟨rfl, rfl, rfl, rfl, rfl⟩ rfl rfl rfl rfl rfl (by kernel_rfl) Try.func7 (by kernel_rfl)
    (of_decide_eq_true (by kernel_rfl)) (by unfold Func.isWrapper; rw [if_neg (of_decide_eq_false (by kernel_rfl))]; exact ⟨rfl, rfl⟩)
    (fun os started H enc _ => lift_law (s := Rows.shapeUnionsSpec) (conds := Rows.shapeUnionsRow.domain) started (by kernel_rfl) Try.func7
      (ChangeSpec.witness6 (enc := enc) (C := Try.checked) false ⟨#[], #[.slice none 0 0, .slice none 0 0, .agg #[.int .i64 0, .int .i64 0]], []⟩ 8 (by kernel_rfl) (by kernel_rfl) (by kernel_rfl) (by kernel_rfl))
      [32, 32, 25] 4 (by rw [Try.params7]) (by kernel_rfl) Try.underlying4 (by kernel_rfl) rfl
      (fun ds h => by match ds, h with | [d0, d1, d2], _ => rfl) unions_walked)
end Go.Proofs.Ytoffbkjhoelghaa
