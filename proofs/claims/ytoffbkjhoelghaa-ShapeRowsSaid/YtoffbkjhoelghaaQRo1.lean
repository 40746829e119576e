/- The law ShapeRows of layer 6 holds: for every rows of spans, box, and row of places the program answers true, and does not panic. No other condition. -/
import Derived.Test.YtoffbkjhoelghaaQRo1x2
import Derived.Test.YtoffbkjhoelghaaRows
namespace Go.Proofs.Ytoffbkjhoelghaa
set_option maxRecDepth 4000
set_option linter.unusedVariables false
set_option linter.unusedSimpArgs false
open Go.RowKit
open Go.ChangeShapes Go.WideShapes Go.ChangeAt Go.Joins Go.Deep
set_option maxRecDepth 20000
theorem rows_walked : Walked 5 [51, 53, 28] := walked_of fun H enc W base args ds p hA hval => by
  obtain ⟨v0, v1, v2, d0, d1, d2, p0, p1, p2, rfl, rfl, rfl, h0, h1, h2⟩ := trodAll_three hA
  obtain ⟨s0, n0, c0, rfl⟩ := okWide_slice Try.underlying51 (hval 0 51 v0 rfl rfl)
  obtain ⟨a0, ok0, r0⟩ := open_any (mk := fun l : List (List Sp) => .slm 1 l.length (l.flatMap fun p => [.slf 3 (p).length ((p).flatMap s3)])) (ok := fun l => ∀ a ∈ l, ∀ x ∈ a, Sp.rng x) (opens_rows (opens_row 4 s3 Sp.rng fits_s3 Try.underlying32 (show flatT Try.prog 4 40 = some [.int .i64, .int .i64, .int .i64] by kernel_rfl) (by kernel_rfl) (by decide) (fun _ => rfl)) Try.underlying51 (by kernel_rfl) (by decide) (fun _ => rfl) (fun _ => rfl)) rfl h0
  obtain ⟨a1, ok1, rfl⟩ := open_struct 4 bx4 (Bx.rng) fits_bx Try.underlying53 (show flatT Try.prog 4 53 = some [.int .i64, .int .i64, .int .i64, .int .i64] by kernel_rfl) (hval 1 53 v1 rfl rfl) h1
  obtain ⟨s2, n2, c2, rfl⟩ := okWide_slice Try.underlying28 (hval 2 28 v2 rfl rfl)
  obtain ⟨a2, hx2, ok2, hc2, hm2, hz2⟩ := open_row 4 Go.Proofs.Ytoffbkjhoelghaa.p2 (Go.Proofs.Ytoffbkjhoelghaa.P2.rng) fits_p2 Try.underlying28 (show flatT Try.prog 4 25 = some [.int .i64, .int .i64] by kernel_rfl) (by kernel_rfl) (by decide) h2
  exact ⟨[(fun l : List (List Sp) => .slm 1 l.length (l.flatMap fun p => [.slf 3 (p).length ((p).flatMap s3)])) a0, .val (.agg (bx4 a1).toArray), .slf 2 a2.length (a2.flatMap Go.Proofs.Ytoffbkjhoelghaa.p2)], (reps_cons r0 (reps_cons (.val _) (reps_cons (rep_row hx2 hc2 hm2 hz2 (fun _ => rfl)) reps_nil))), rows_d a0 a1 a2⟩
theorem rows_holds : Rows.ShapeRowsSaid :=
  OpenClaim.holds_of_wide 5 Try.f5 rfl rfl rfl rfl rfl rfl rfl ⟨rfl, rfl, rfl, rfl, rfl⟩ rfl rfl rfl rfl rfl (by kernel_rfl) Try.func5 (by kernel_rfl)
    (of_decide_eq_true (by kernel_rfl)) (by unfold Func.isWrapper; rw [if_neg (of_decide_eq_false (by kernel_rfl))]; exact ⟨rfl, rfl⟩)
    (fun os started H enc _ => lift_law (s := Rows.shapeRowsSpec) (conds := Rows.shapeRowsRow.domain) started (by kernel_rfl) Try.func5
      (ChangeSpec.witness6 (enc := enc) (C := Try.checked) false ⟨#[], #[.slice none 0 0, .agg #[.int .i64 0, .int .i64 0, .int .i64 0, .int .i64 0], .slice none 0 0], []⟩ 8 (by kernel_rfl) (by kernel_rfl) (by kernel_rfl) (by kernel_rfl))
      [51, 53, 28] 4 (by rw [Try.params5]) (by kernel_rfl) Try.underlying4 (by kernel_rfl) rfl
      (fun ds h => by match ds, h with | [d0, d1, d2], _ => rfl) rows_walked)
end Go.Proofs.Ytoffbkjhoelghaa
