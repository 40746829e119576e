/- The law MarksParts of layer 16 holds: for every row of ids, and id the program answers true, and does not panic. No other condition. -/
import Derived.Test.YtmpodnadoebclaaQPa1x1
import Derived.Test.YtmpodnadoebclaaRows
namespace Go.Proofs.Ytmpodnadoebclaa
set_option maxRecDepth 4000
set_option linter.unusedVariables false
set_option linter.unusedSimpArgs false
open Go.RowKit
open Go.ChangeShapes Go.WideShapes Go.ChangeAt Go.Joins Go.Deep
set_option maxRecDepth 20000
theorem wparts_walked : Walked 6 [22, 35] := walked_of fun H enc W base args ds p hA hval => by
  obtain ⟨v0, v1, d0, d1, p0, p1, rfl, rfl, rfl, h0, h1⟩ := trodAll_two hA
  obtain ⟨s0, n0, c0, rfl⟩ := okWide_slice Try.underlying22 (hval 0 22 v0 rfl rfl)
  obtain ⟨a0, hx0, ok0, hc0, hm0, hz0⟩ := open_row 4 idc (fun _ => True) fits_id Try.underlying22 (show flatT Try.prog 4 35 = some [.int .u64, .int .i64, .int .u64] by kernel_rfl) (by kernel_rfl) (by decide) h0
  obtain ⟨a1, ok1, rfl⟩ := open_struct 4 idc (fun _ => True) fits_id Try.underlying35 (show flatT Try.prog 4 35 = some [.int .u64, .int .i64, .int .u64] by kernel_rfl) (hval 1 35 v1 rfl rfl) h1
  exact ⟨[.slf 3 a0.length (a0.flatMap idc), .val (.agg (idc a1).toArray)], (reps_cons (rep_row hx0 hc0 hm0 hz0 (fun _ => rfl)) (reps_cons (.val _) reps_nil)), lparts_d a0 a1⟩
theorem wparts_holds : Rows.MarksPartsSaid :=
  OpenClaim.holds_of_wide 6 Try.f6 rfl rfl rfl rfl rfl rfl rfl ⟨rfl, rfl, rfl, rfl, rfl⟩ rfl rfl rfl rfl rfl (by kernel_rfl) Try.func6 (by kernel_rfl)
    (of_decide_eq_true (by kernel_rfl)) (by unfold Func.isWrapper; rw [if_neg (of_decide_eq_false (by kernel_rfl))]; exact ⟨rfl, rfl⟩)
    (fun os started H enc _ => lift_law (s := Rows.marksPartsSpec) (conds := Rows.marksPartsRow.domain) started (by kernel_rfl) Try.func6
      (ChangeSpec.witness6 (enc := enc) (C := Try.checked) false ⟨#[], #[.slice none 0 0, .agg #[.int .u64 0, .int .i64 0, .int .u64 0]], []⟩ 8 (by kernel_rfl) (by kernel_rfl) (by kernel_rfl) (by kernel_rfl))
      [22, 35] 4 (by rw [Try.params6]) (by kernel_rfl) Try.underlying4 (by kernel_rfl) rfl
      (fun ds h => by match ds, h with | [d0, d1], _ => rfl) wparts_walked)
end Go.Proofs.Ytmpodnadoebclaa
