/- The law OctetOrders of layer 1 holds: for every width and two numbers the program answers true, and does not panic. No other condition. -/
import Derived.Test.YtfdekahbojoodaaOs
import Derived.Test.YtfdekahbojoodaaFi
import Derived.Test.YtfdekahbojoodaaRows
import Derived.Test.YtfdekahbojoodaaLs
namespace Go.Proofs.Ytfdekahbojoodaa
set_option linter.unusedVariables false
set_option linter.unusedSimpArgs false
open Go.RowKit
open Go.ChangeShapes Go.WideShapes Go.ChangeAt Go.Joins Go.Deep

theorem orders_walked : Walked 6 [3, 26, 26] := walked_of fun H enc W base args ds p hA hval => by
  obtain ⟨v0, v1, v2, d0, d1, d2, p0, p1, p2, rfl, rfl, rfl, h0, h1, h2⟩ := trodAll_three hA
  obtain ⟨u0, hu0⟩ := okWide_int Try.underlying3 (hval 0 3 v0 rfl rfl)
  obtain ⟨a0, ok0, rfl⟩ := open_prim (.int .i64) (fun n : Int => True) (fun v h => fits_prim_i64 h) (show flatT Try.prog 1 3 = some [.int .i64] by kernel_rfl) ⟨_, hu0, rfl⟩ h0
  obtain ⟨u1, hu1⟩ := okWide_int Try.underlying26 (hval 1 26 v1 rfl rfl)
  obtain ⟨a1, ok1, rfl⟩ := open_prim (.int .u64) (fun n : Int => 0 ≤ n ∧ n ≤ 18446744073709551615) (fun v h => fits_prim_u64 h) (show flatT Try.prog 1 26 = some [.int .u64] by kernel_rfl) ⟨_, hu1, rfl⟩ h1
  obtain ⟨u2, hu2⟩ := okWide_int Try.underlying26 (hval 2 26 v2 rfl rfl)
  obtain ⟨a2, ok2, rfl⟩ := open_prim (.int .u64) (fun n : Int => 0 ≤ n ∧ n ≤ 18446744073709551615) (fun v h => fits_prim_u64 h) (show flatT Try.prog 1 26 = some [.int .u64] by kernel_rfl) ⟨_, hu2, rfl⟩ h2
  exact ⟨[.val (.int .i64 a0), .val (.int .u64 a1), .val (.int .u64 a2)], (reps_cons (.val _) (reps_cons (.val _) (reps_cons (.val _) reps_nil))), orders_d a0 a1 a2 ok1 ok2⟩
theorem orders_holds : Rows.OctetOrdersSaid :=
  OpenClaim.holds_of_wide 6 Try.f6 rfl rfl rfl rfl rfl rfl rfl ⟨rfl, rfl, rfl, rfl, rfl⟩ rfl rfl rfl rfl rfl (by kernel_rfl) Try.func6 (by kernel_rfl)
    (of_decide_eq_true (by kernel_rfl)) (by unfold Func.isWrapper; rw [if_neg (of_decide_eq_false (by kernel_rfl))]; exact ⟨rfl, rfl⟩)
    (fun os started H enc _ => lift_law (s := Rows.octetOrdersSpec) (conds := Rows.octetOrdersRow.domain) started (by kernel_rfl) Try.func6
      (ChangeSpec.witness6 (enc := enc) (C := Try.checked) false ⟨#[], #[.int .i64 0, .int .u64 0, .int .u64 0], []⟩ 8 (by kernel_rfl) (by kernel_rfl) (by kernel_rfl) (by kernel_rfl))
      [3, 26, 26] 4 (by rw [Try.params6]) (by kernel_rfl) Try.underlying4 (by kernel_rfl) rfl
      (fun ds h => by match ds, h with | [d0, d1, d2], _ => rfl) orders_walked)

end Go.Proofs.Ytfdekahbojoodaa
