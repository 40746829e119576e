/- The law DiskFronts of layer 22 holds: for every disk, and two numbers the program answers true, and does not panic. No other condition. -/
import Derived.Test.YtjecmkaggobcjaaK7
import Derived.Test.YtjecmkaggobcjaaRows
namespace Go.Proofs.Ytjecmkaggobcjaa
set_option linter.unusedVariables false
set_option linter.unusedSimpArgs false
open Go.RowKit
open Go.ChangeShapes Go.WideShapes Go.ChangeAt Go.Joins Go.Deep
set_option maxRecDepth 20000 in
theorem dfronts_walked : Walked 7 [26, 3, 3] := walked_of fun H enc W base args ds p hA hval => by
  obtain ⟨v0, v1, v2, d0, d1, d2, p0, p1, p2, rfl, rfl, rfl, h0, h1, h2⟩ := trodAll_three hA
  obtain ⟨a0, ok0, r0⟩ := open_agg (mk := dskD) (ok := okD) Try.underlying26 (opens_disk) (hval 0 26 v0 rfl rfl) h0
  obtain ⟨u1, hu1⟩ := okWide_int Try.underlying3 (hval 1 3 v1 rfl rfl)
  obtain ⟨a1, ok1, rfl⟩ := open_prim (.int .i64) (fun n : Int => -9223372036854775808 ≤ n ∧ n ≤ 9223372036854775807) (fun v h => fits_prim_i64 h) (show flatT Try.prog 1 3 = some [.int .i64] by kernel_rfl) ⟨_, hu1, rfl⟩ h1
  obtain ⟨u2, hu2⟩ := okWide_int Try.underlying3 (hval 2 3 v2 rfl rfl)
  obtain ⟨a2, ok2, rfl⟩ := open_prim (.int .i64) (fun n : Int => -9223372036854775808 ≤ n ∧ n ≤ 9223372036854775807) (fun v h => fits_prim_i64 h) (show flatT Try.prog 1 3 = some [.int .i64] by kernel_rfl) ⟨_, hu2, rfl⟩ h2
  exact ⟨[.agg ((dskD) a0), .val (.int .i64 a1), .val (.int .i64 a2)], (reps_cons r0 (reps_cons (.val _) (reps_cons (.val _) reps_nil))), fronts_d a0.1 a0.2.1 a0.2.2.1 a0.2.2.2.1 a0.2.2.2.2 ok0.1 ok0.2 a1 a2⟩
theorem dfronts_holds : Rows.DiskFrontsSaid :=
  OpenClaim.holds_of_wide 7 Try.f7 rfl rfl rfl rfl rfl rfl rfl ⟨rfl, rfl, rfl, rfl, rfl⟩ rfl rfl rfl rfl rfl (by kernel_rfl) Try.func7 (by kernel_rfl)
    (of_decide_eq_true (by kernel_rfl)) (by unfold Func.isWrapper; rw [if_neg (of_decide_eq_false (by kernel_rfl))]; exact ⟨rfl, rfl⟩)
    (fun os started H enc _ => lift_law (s := Rows.diskFrontsSpec) (conds := Rows.diskFrontsRow.domain) started (by kernel_rfl) Try.func7
      (ChangeSpec.witness6 (enc := enc) (C := Try.checked) false ⟨#[], #[.agg #[.slice none 0 0, .slice none 0 0, .slice none 0 0, .slice none 0 0, .int .i64 0, .slice none 0 0, .bool false, .int .i64 0], .int .i64 0, .int .i64 0], []⟩ 8 (by kernel_rfl) (by kernel_rfl) (by kernel_rfl) (by kernel_rfl))
      [26, 3, 3] 4 (by rw [Try.params7]) (by kernel_rfl) Try.underlying4 (by kernel_rfl) rfl
      (fun ds h => by match ds, h with | [d0, d1, d2], _ => rfl) dfronts_walked)
end Go.Proofs.Ytjecmkaggobcjaa
