/- The law TileSums of layer 4 holds: for every tile and two numbers the call returns true, and the arguments read afterwards as they read before. No condition. -/
import Derived.Test.YthagnobjbpmneaaTt
import Derived.Test.YthagnobjbpmneaaFi
import Derived.Test.YthagnobjbpmneaaRows
import Derived.Test.YthagnobjbpmneaaLs
namespace Go.Proofs.Ythagnobjbpmneaa
set_option linter.unusedVariables false
set_option linter.unusedSimpArgs false
open Go.RowKit
open Go.ChangeShapes Go.WideShapes Go.ChangeAt Go.Joins Go.Deep
set_option maxRecDepth 100000

theorem sums_walked : Walked 8 [25, 3, 3] := walked_of fun H enc W base args ds p hA hval => by
  obtain ⟨v0, v1, v2, d0, d1, d2, p0, p1, p2, rfl, rfl, rfl, h0, h1, h2⟩ := trodAll_three hA
  obtain ⟨a0, ok0, rfl⟩ := open_arrayT 4 tc (fun _ => True) fits_tl Try.underlying25 (show flatT Try.prog 4 25 = some (List.replicate 64 [.int .u8, .int .u8, .int .u8, .int .u8]).flatten by kernel_rfl) (hval 0 25 v0 rfl rfl) h0
  obtain ⟨u1, hu1⟩ := okWide_int Try.underlying3 (hval 1 3 v1 rfl rfl)
  obtain ⟨a1, ok1, rfl⟩ := open_prim (.int .i64) (fun n : Int => True) (fun v h => fits_prim_i64 h) (show flatT Try.prog 1 3 = some [.int .i64] by kernel_rfl) ⟨_, hu1, rfl⟩ h1
  obtain ⟨u2, hu2⟩ := okWide_int Try.underlying3 (hval 2 3 v2 rfl rfl)
  obtain ⟨a2, ok2, rfl⟩ := open_prim (.int .i64) (fun n : Int => True) (fun v h => fits_prim_i64 h) (show flatT Try.prog 1 3 = some [.int .i64] by kernel_rfl) ⟨_, hu2, rfl⟩ h2
  exact ⟨[.val (.agg (tc a0).toArray), .val (.int .i64 a1), .val (.int .i64 a2)], (reps_cons (.val _) (reps_cons (.val _) (reps_cons (.val _) reps_nil))), sums_d a0 a1 a2⟩
theorem sums_holds : Rows.TileSumsSaid :=
  OpenClaim.holds_of_wide 8 Try.f8 rfl rfl rfl rfl rfl rfl rfl ⟨rfl, rfl, rfl, rfl, rfl⟩ rfl rfl rfl rfl rfl (by kernel_rfl) Try.func8 (by kernel_rfl)
    (of_decide_eq_true (by kernel_rfl)) (by unfold Func.isWrapper; rw [if_neg (of_decide_eq_false (by kernel_rfl))]; exact ⟨rfl, rfl⟩)
    (fun os started H enc _ => lift_law (s := Rows.tileSumsSpec) (conds := Rows.tileSumsRow.domain) started (by kernel_rfl) Try.func8
      (ChangeSpec.witness6 (enc := enc) (C := Try.checked) false ⟨#[], #[.agg (List.replicate 256 (.int .u8 0)).toArray, .int .i64 0, .int .i64 0], []⟩ 8 (by kernel_rfl) (by kernel_rfl) (by kernel_rfl) (by kernel_rfl))
      [25, 3, 3] 4 (by rw [Try.params8]) (by kernel_rfl) Try.underlying4 (by kernel_rfl) rfl
      (fun ds h => by match ds, h with | [d0, d1, d2], _ => rfl) sums_walked)

end Go.Proofs.Ythagnobjbpmneaa
