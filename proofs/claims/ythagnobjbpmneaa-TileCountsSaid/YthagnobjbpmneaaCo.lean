/- The law TileCounts of layer 4 holds: for every two tiles and row of colours the call returns true, and the arguments read afterwards as they read before. No condition. -/
import Derived.Test.YthagnobjbpmneaaTp
import Derived.Test.YthagnobjbpmneaaFi
import Derived.Test.YthagnobjbpmneaaRows
import Derived.Test.YthagnobjbpmneaaLs
namespace Go.Proofs.Ythagnobjbpmneaa
set_option linter.unusedVariables false
set_option linter.unusedSimpArgs false
open Go.RowKit
open Go.ChangeShapes Go.WideShapes Go.ChangeAt Go.Joins Go.Deep
set_option maxRecDepth 100000

theorem counts_walked : Walked 4 [25, 25, 43] := walked_of fun H enc W base args ds p hA hval => by
  obtain ⟨v0, v1, v2, d0, d1, d2, p0, p1, p2, rfl, rfl, rfl, h0, h1, h2⟩ := trodAll_three hA
  obtain ⟨a0, ok0, rfl⟩ := open_arrayT 4 tc (fun _ => True) fits_tl Try.underlying25 (show flatT Try.prog 4 25 = some (List.replicate 64 [.int .u8, .int .u8, .int .u8, .int .u8]).flatten by kernel_rfl) (hval 0 25 v0 rfl rfl) h0
  obtain ⟨a1, ok1, rfl⟩ := open_arrayT 4 tc (fun _ => True) fits_tl Try.underlying25 (show flatT Try.prog 4 25 = some (List.replicate 64 [.int .u8, .int .u8, .int .u8, .int .u8]).flatten by kernel_rfl) (hval 1 25 v1 rfl rfl) h1
  obtain ⟨s2, n2, c2, rfl⟩ := okWide_slice Try.underlying43 (hval 2 43 v2 rfl rfl)
  obtain ⟨a2, hx2, ok2, hc2, hm2, hz2⟩ := open_row 4 c4 (fun _ => True) fits_c4 Try.underlying43 (show flatT Try.prog 4 23 = some [.int .u8, .int .u8, .int .u8, .int .u8] by kernel_rfl) (by kernel_rfl) (by decide) h2
  exact ⟨[.val (.agg (tc a0).toArray), .val (.agg (tc a1).toArray), .slf 4 a2.length (a2.flatMap c4)], (reps_cons (.val _) (reps_cons (.val _) (reps_cons (rep_row hx2 hc2 hm2 hz2 (fun _ => rfl)) reps_nil))), counts_d a0 a1 a2⟩
theorem counts_holds : Rows.TileCountsSaid :=
  OpenClaim.holds_of_wide 4 Try.f4 rfl rfl rfl rfl rfl rfl rfl ⟨rfl, rfl, rfl, rfl, rfl⟩ rfl rfl rfl rfl rfl (by kernel_rfl) Try.func4 (by kernel_rfl)
    (of_decide_eq_true (by kernel_rfl)) (by unfold Func.isWrapper; rw [if_neg (of_decide_eq_false (by kernel_rfl))]; exact ⟨rfl, rfl⟩)
    (fun os started H enc _ => lift_law (s := Rows.tileCountsSpec) (conds := Rows.tileCountsRow.domain) started (by kernel_rfl) Try.func4
      (ChangeSpec.witness6 (enc := enc) (C := Try.checked) false ⟨#[], #[.agg (List.replicate 256 (.int .u8 0)).toArray, .agg (List.replicate 256 (.int .u8 0)).toArray, .slice none 0 0], []⟩ 8 (by kernel_rfl) (by kernel_rfl) (by kernel_rfl) (by kernel_rfl))
      [25, 25, 43] 4 (by rw [Try.params4]) (by kernel_rfl) Try.underlying4 (by kernel_rfl) rfl
      (fun ds h => by match ds, h with | [d0, d1, d2], _ => rfl) counts_walked)

end Go.Proofs.Ythagnobjbpmneaa
