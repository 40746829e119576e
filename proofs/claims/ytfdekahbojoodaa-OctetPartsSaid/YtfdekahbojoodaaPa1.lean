/- The law OctetParts of layer 1 holds: for every row of parts, and place to cut at the program answers true, and does not panic. No other condition. -/
import Derived.Test.YtfdekahbojoodaaOz
import Derived.Test.YtfdekahbojoodaaFi
import Derived.Test.YtfdekahbojoodaaRows
import Derived.Test.YtfdekahbojoodaaLs
namespace Go.Proofs.Ytfdekahbojoodaa
set_option linter.unusedVariables false
set_option linter.unusedSimpArgs false
open Go.RowKit
open Go.ChangeShapes Go.WideShapes Go.ChangeAt Go.Joins Go.Deep

theorem parts_walked : Walked 7 [63, 3] := walked_of fun H enc W base args ds p hA hval => by
  obtain ⟨v0, v1, d0, d1, p0, p1, rfl, rfl, rfl, h0, h1⟩ := trodAll_two hA
  obtain ⟨s0, n0, c0, rfl⟩ := okWide_slice Try.underlying63 (hval 0 63 v0 rfl rfl)
  obtain ⟨a0, ok0, r0⟩ := open_any (mk := fun l : List (List Int) => .slm 1 l.length (l.flatMap fun p => [rB p])) (ok := fun l => ∀ a ∈ l, ∀ x ∈ a, 0 ≤ x ∧ x ≤ 255) (opens_rows (opens_row 4 uc8 (fun n : Int => 0 ≤ n ∧ n ≤ 255) fits_u8 Try.underlying22 (show flatT Try.prog 4 5 = some [.int .u8] by kernel_rfl) (by kernel_rfl) (by decide) (fun _ => rfl)) Try.underlying63 (by kernel_rfl) (by decide) (fun _ => rfl) (fun _ => rfl)) rfl h0
  obtain ⟨u1, hu1⟩ := okWide_int Try.underlying3 (hval 1 3 v1 rfl rfl)
  obtain ⟨a1, ok1, rfl⟩ := open_prim (.int .i64) (fun n : Int => True) (fun v h => fits_prim_i64 h) (show flatT Try.prog 1 3 = some [.int .i64] by kernel_rfl) ⟨_, hu1, rfl⟩ h1
  exact ⟨[(fun l : List (List Int) => .slm 1 l.length (l.flatMap fun p => [rB p])) a0, .val (.int .i64 a1)], (reps_cons r0 (reps_cons (.val _) reps_nil)), parts_d a0 a1⟩
theorem parts_holds : Rows.OctetPartsSaid :=
  OpenClaim.holds_of_wide 7 Try.f7 rfl rfl rfl rfl rfl rfl rfl ⟨rfl, rfl, rfl, rfl, rfl⟩ rfl rfl rfl rfl rfl (by kernel_rfl) Try.func7 (by kernel_rfl)
    (of_decide_eq_true (by kernel_rfl)) (by unfold Func.isWrapper; rw [if_neg (of_decide_eq_false (by kernel_rfl))]; exact ⟨rfl, rfl⟩)
    (fun os started H enc _ => lift_law (s := Rows.octetPartsSpec) (conds := Rows.octetPartsRow.domain) started (by kernel_rfl) Try.func7
      (ChangeSpec.witness6 (enc := enc) (C := Try.checked) false ⟨#[], #[.slice none 0 0, .int .i64 0], []⟩ 8 (by kernel_rfl) (by kernel_rfl) (by kernel_rfl) (by kernel_rfl))
      [63, 3] 4 (by rw [Try.params7]) (by kernel_rfl) Try.underlying4 (by kernel_rfl) rfl
      (fun ds h => by match ds, h with | [d0, d1], _ => rfl) parts_walked)

end Go.Proofs.Ytfdekahbojoodaa
