/- The law TileBoxes of layer 4 holds: for every two tiles the call returns true, and the arguments read afterwards as they read before. No condition. -/
import Derived.Test.YthagnobjbpmneaaTq
import Derived.Test.YthagnobjbpmneaaFi
import Derived.Test.YthagnobjbpmneaaRows
import Derived.Test.YthagnobjbpmneaaLs
namespace Go.Proofs.Ythagnobjbpmneaa
set_option linter.unusedVariables false
set_option linter.unusedSimpArgs false
open Go.RowKit
open Go.ChangeShapes Go.WideShapes Go.ChangeAt Go.Joins Go.Deep
set_option maxRecDepth 100000

theorem boxes_walked : Walked 7 [25, 25] := walked_of fun H enc W base args ds p hA hval => by
  obtain ⟨v0, v1, d0, d1, p0, p1, rfl, rfl, rfl, h0, h1⟩ := trodAll_two hA
  obtain ⟨a0, ok0, rfl⟩ := open_arrayT 4 tc (fun _ => True) fits_tl Try.underlying25 (show flatT Try.prog 4 25 = some (List.replicate 64 [.int .u8, .int .u8, .int .u8, .int .u8]).flatten by kernel_rfl) (hval 0 25 v0 rfl rfl) h0
  obtain ⟨a1, ok1, rfl⟩ := open_arrayT 4 tc (fun _ => True) fits_tl Try.underlying25 (show flatT Try.prog 4 25 = some (List.replicate 64 [.int .u8, .int .u8, .int .u8, .int .u8]).flatten by kernel_rfl) (hval 1 25 v1 rfl rfl) h1
  exact ⟨[.val (.agg (tc a0).toArray), .val (.agg (tc a1).toArray)], (reps_cons (.val _) (reps_cons (.val _) reps_nil)), boxes_d a0 a1⟩
theorem boxes_holds : Rows.TileBoxesSaid :=
  OpenClaim.holds_of_wide 7 Try.f7 rfl rfl rfl rfl rfl rfl rfl ⟨rfl, rfl, rfl, rfl, rfl⟩ rfl rfl rfl rfl rfl (by kernel_rfl) Try.func7 (by kernel_rfl)
    (of_decide_eq_true (by kernel_rfl)) (by unfold Func.isWrapper; rw [if_neg (of_decide_eq_false (by kernel_rfl))]; exact ⟨rfl, rfl⟩)
    (fun os started H enc _ => lift_law (s := Rows.tileBoxesSpec) (conds := Rows.tileBoxesRow.domain) started (by kernel_rfl) Try.func7
      (ChangeSpec.witness6 (enc := enc) (C := Try.checked) false ⟨#[], #[.agg (List.replicate 256 (.int .u8 0)).toArray, .agg (List.replicate 256 (.int .u8 0)).toArray], []⟩ 8 (by kernel_rfl) (by kernel_rfl) (by kernel_rfl) (by kernel_rfl))
      [25, 25] 4 (by rw [Try.params7]) (by kernel_rfl) Try.underlying4 (by kernel_rfl) rfl
      (fun ds h => by match ds, h with | [d0, d1], _ => rfl) boxes_walked)

end Go.Proofs.Ythagnobjbpmneaa
