/- The law FloodRegions of layer 8 holds: for every canvas, row of places with tolerances, and colour the program answers true, and does not panic. No other condition. -/
import Derived.Test.YtfnhckildfbikaaQRe1x1
import Derived.Test.YtfnhckildfbikaaRows
namespace Go.Proofs.Ytfnhckildfbikaa
set_option maxRecDepth 4000
set_option linter.unusedVariables false
set_option linter.unusedSimpArgs false
open Go.RowKit
open Go.ChangeShapes Go.WideShapes Go.ChangeAt Go.Joins Go.Deep
set_option maxRecDepth 20000
theorem fregs_walked : Walked 3 [24, 25, 27] := walked_of fun H enc W base args ds p hA hval => by
  obtain ⟨v0, v1, v2, d0, d1, d2, p0, p1, p2, rfl, rfl, rfl, h0, h1, h2⟩ := trodAll_three hA
  obtain ⟨a0, ok0, r0⟩ := open_agg (mk := shL) (ok := fun a => tsRng a.2.2) Try.underlying24 (opens_cv) (hval 0 24 v0 rfl rfl) h0
  obtain ⟨s1, n1, c1, rfl⟩ := okWide_slice Try.underlying25 (hval 1 25 v1 rfl rfl)
  obtain ⟨a1, hx1, ok1, hc1, hm1, hz1⟩ := open_row 4 Go.Proofs.Ytfnhckildfbikaa.q3 (fun a : Int × Int × Int => (-9223372036854775808 ≤ a.1 ∧ a.1 ≤ 9223372036854775807) ∧ (-9223372036854775808 ≤ a.2.1 ∧ a.2.1 ≤ 9223372036854775807) ∧ -9223372036854775808 ≤ a.2.2 ∧ a.2.2 ≤ 9223372036854775807) fits_q3 Try.underlying25 (show flatT Try.prog 4 32 = some [.int .i64, .int .i64, .int .i64] by kernel_rfl) (by kernel_rfl) (by decide) h1
  obtain ⟨a2, ok2, rfl⟩ := open_struct 4 c4 (C4.rng) fits_c4 Try.underlying27 (show flatT Try.prog 4 27 = some [.int .u8, .int .u8, .int .u8, .int .u8] by kernel_rfl) (hval 2 27 v2 rfl rfl) h2
  exact ⟨[.agg ((shL) a0), .slf 3 a1.length (a1.flatMap Go.Proofs.Ytfnhckildfbikaa.q3), .val (.agg (c4 a2).toArray)], (reps_cons r0 (reps_cons (rep_row hx1 hc1 hm1 hz1 (fun _ => rfl)) (reps_cons (.val _) reps_nil))), fregs_d a0.1 a0.2.1 a0.2.2 ok0 a1 a2⟩
theorem fregs_holds : Rows.FloodRegionsSaid :=
  OpenClaim.holds_of_wide 3 Try.f3 rfl rfl rfl rfl rfl rfl rfl ⟨rfl, rfl, rfl, rfl, rfl⟩ rfl rfl rfl rfl rfl (by kernel_rfl) Try.func3 (by kernel_rfl)
    (of_decide_eq_true (by kernel_rfl)) (by unfold Func.isWrapper; rw [if_neg (of_decide_eq_false (by kernel_rfl))]; exact ⟨rfl, rfl⟩)
    (fun os started H enc _ => lift_law (s := Rows.floodRegionsSpec) (conds := Rows.floodRegionsRow.domain) started (by kernel_rfl) Try.func3
      (ChangeSpec.witness6 (enc := enc) (C := Try.checked) false ⟨#[], #[.agg #[.int .i64 0, .int .i64 0, .slice none 0 0], .slice none 0 0, .agg #[.int .u8 0, .int .u8 0, .int .u8 0, .int .u8 0]], []⟩ 8 (by kernel_rfl) (by kernel_rfl) (by kernel_rfl) (by kernel_rfl))
      [24, 25, 27] 4 (by rw [Try.params3]) (by kernel_rfl) Try.underlying4 (by kernel_rfl) rfl
      (fun ds h => by match ds, h with | [d0, d1, d2], _ => rfl) fregs_walked)
end Go.Proofs.Ytfnhckildfbikaa
