/- The law MarksTells of layer 16 holds: for every row of ids of marks, row of ids, and number the program answers true, and does not panic. No other condition. -/
import Derived.Test.YtmpodnadoebclaaQTe1x1
import Derived.Test.YtmpodnadoebclaaRows
namespace Go.Proofs.Ytmpodnadoebclaa
set_option maxRecDepth 4000
set_option linter.unusedVariables false
set_option linter.unusedSimpArgs false
open Go.RowKit
open Go.ChangeShapes Go.WideShapes Go.ChangeAt Go.Joins Go.Deep
set_option maxRecDepth 20000
theorem wtells_walked : Walked 4 [22, 22, 3] := walked_of fun H enc W base args ds p hA hval => by
  obtain ⟨v0, v1, v2, d0, d1, d2, p0, p1, p2, rfl, rfl, rfl, h0, h1, h2⟩ := trodAll_three hA
  obtain ⟨s0, n0, c0, rfl⟩ := okWide_slice Try.underlying22 (hval 0 22 v0 rfl rfl)
  obtain ⟨a0, hx0, ok0, hc0, hm0, hz0⟩ := open_row 4 idc (fun _ => True) fits_id Try.underlying22 (show flatT Try.prog 4 35 = some [.int .u64, .int .i64, .int .u64] by kernel_rfl) (by kernel_rfl) (by decide) h0
  obtain ⟨s1, n1, c1, rfl⟩ := okWide_slice Try.underlying22 (hval 1 22 v1 rfl rfl)
  obtain ⟨a1, hx1, ok1, hc1, hm1, hz1⟩ := open_row 4 idc (fun _ => True) fits_id Try.underlying22 (show flatT Try.prog 4 35 = some [.int .u64, .int .i64, .int .u64] by kernel_rfl) (by kernel_rfl) (by decide) h1
  obtain ⟨u2, hu2⟩ := okWide_int Try.underlying3 (hval 2 3 v2 rfl rfl)
  obtain ⟨a2, ok2, rfl⟩ := open_prim (.int .i64) (fun n : Int => -9223372036854775808 ≤ n ∧ n ≤ 9223372036854775807) (fun v h => fits_prim_i64 h) (show flatT Try.prog 1 3 = some [.int .i64] by kernel_rfl) ⟨_, hu2, rfl⟩ h2
  exact ⟨[.slf 3 a0.length (a0.flatMap idc), .slf 3 a1.length (a1.flatMap idc), .val (.int .i64 a2)], (reps_cons (rep_row hx0 hc0 hm0 hz0 (fun _ => rfl)) (reps_cons (rep_row hx1 hc1 hm1 hz1 (fun _ => rfl)) (reps_cons (.val _) reps_nil))), ltells_d a0 a1 a2⟩
theorem wtells_holds : Rows.MarksTellsSaid :=
  OpenClaim.holds_of_wide 4 Try.f4 rfl rfl rfl rfl rfl rfl rfl ⟨rfl, rfl, rfl, rfl, rfl⟩ rfl rfl rfl rfl rfl (by kernel_rfl) Try.func4 (by kernel_rfl)
    (of_decide_eq_true (by kernel_rfl)) (by unfold Func.isWrapper; rw [if_neg (of_decide_eq_false (by kernel_rfl))]; exact ⟨rfl, rfl⟩)
    (fun os started H enc _ => lift_law (s := Rows.marksTellsSpec) (conds := Rows.marksTellsRow.domain) started (by kernel_rfl) Try.func4
      (ChangeSpec.witness6 (enc := enc) (C := Try.checked) false ⟨#[], #[.slice none 0 0, .slice none 0 0, .int .i64 0], []⟩ 8 (by kernel_rfl) (by kernel_rfl) (by kernel_rfl) (by kernel_rfl))
      [22, 22, 3] 4 (by rw [Try.params4]) (by kernel_rfl) Try.underlying4 (by kernel_rfl) rfl
      (fun ds h => by match ds, h with | [d0, d1, d2], _ => rfl) wtells_walked)
end Go.Proofs.Ytmpodnadoebclaa
