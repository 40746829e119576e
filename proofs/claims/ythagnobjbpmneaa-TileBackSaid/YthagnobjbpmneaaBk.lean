/- The law TileBack of layer 4 holds: for every tile and number of quarter turns the call returns true, and the arguments read afterwards as they read before. No condition. -/
import Derived.Test.YthagnobjbpmneaaTn
import Derived.Test.YthagnobjbpmneaaFi
import Derived.Test.YthagnobjbpmneaaRows
import Derived.Test.YthagnobjbpmneaaLs
namespace Go.Proofs.Ythagnobjbpmneaa
set_option linter.unusedVariables false
set_option linter.unusedSimpArgs false
open Go.RowKit
open Go.ChangeShapes Go.WideShapes Go.ChangeAt Go.Joins Go.Deep
set_option maxRecDepth 100000

theorem back_walked : Walked 6 [25, 3] := walked_of fun H enc W base args ds p hA hval => by
  obtain ⟨v0, v1, d0, d1, p0, p1, rfl, rfl, rfl, h0, h1⟩ := trodAll_two hA
  obtain ⟨a0, ok0, rfl⟩ := open_arrayT 4 tc (fun _ => True) fits_tl Try.underlying25 (show flatT Try.prog 4 25 = some (List.replicate 64 [.int .u8, .int .u8, .int .u8, .int .u8]).flatten by kernel_rfl) (hval 0 25 v0 rfl rfl) h0
  obtain ⟨u1, hu1⟩ := okWide_int Try.underlying3 (hval 1 3 v1 rfl rfl)
  obtain ⟨a1, ok1, rfl⟩ := open_prim (.int .i64) (fun n : Int => True) (fun v h => fits_prim_i64 h) (show flatT Try.prog 1 3 = some [.int .i64] by kernel_rfl) ⟨_, hu1, rfl⟩ h1
  exact ⟨[.val (.agg (tc a0).toArray), .val (.int .i64 a1)], (reps_cons (.val _) (reps_cons (.val _) reps_nil)), back_d a0 a1⟩
theorem back_holds : Rows.TileBackSaid :=
  OpenClaim.holds_of_wide 6 Try.f6 rfl rfl rfl rfl rfl rfl rfl ⟨rfl, rfl, rfl, rfl, rfl⟩ rfl rfl rfl rfl rfl (by kernel_rfl) Try.func6 (by kernel_rfl)
    (of_decide_eq_true (by kernel_rfl)) (by unfold Func.isWrapper; rw [if_neg (of_decide_eq_false (by kernel_rfl))]; exact ⟨rfl, rfl⟩)
    (fun os started H enc _ => lift_law (s := Rows.tileBackSpec) (conds := Rows.tileBackRow.domain) started (by kernel_rfl) Try.func6
      (ChangeSpec.witness6 (enc := enc) (C := Try.checked) false ⟨#[], #[.agg (List.replicate 256 (.int .u8 0)).toArray, .int .i64 0], []⟩ 8 (by kernel_rfl) (by kernel_rfl) (by kernel_rfl) (by kernel_rfl))
      [25, 3] 4 (by rw [Try.params6]) (by kernel_rfl) Try.underlying4 (by kernel_rfl) rfl
      (fun ds h => by match ds, h with | [d0, d1], _ => rfl) back_walked)

end Go.Proofs.Ythagnobjbpmneaa
