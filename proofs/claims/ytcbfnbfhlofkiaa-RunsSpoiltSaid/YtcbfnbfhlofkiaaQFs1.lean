/- The law RunsSpoilt of layer 10 holds: for every tile, place, and byte the program answers true, and does not panic. No other condition. -/
import Derived.Test.YtcbfnbfhlofkiaaQFs1x1
import Derived.Test.YtcbfnbfhlofkiaaRows
namespace Go.Proofs.Ytcbfnbfhlofkiaa
set_option maxRecDepth 4000
set_option linter.unusedVariables false
set_option linter.unusedSimpArgs false
open Go.RowKit
open Go.ChangeShapes Go.WideShapes Go.ChangeAt Go.Joins Go.Deep
set_option maxRecDepth 20000
theorem wspoilt_walked : Walked 7 [29, 3, 5] := walked_of fun H enc W base args ds p hA hval => by
  obtain ⟨v0, v1, v2, d0, d1, d2, p0, p1, p2, rfl, rfl, rfl, h0, h1, h2⟩ := trodAll_three hA
  obtain ⟨a0, ok0, rfl⟩ := open_arrayT 4 tc (fun t : TL => ∀ c ∈ t.l, c.rng) fits_tl Try.underlying29 (show flatT Try.prog 4 29 = some (List.replicate 64 [.int .u8, .int .u8, .int .u8, .int .u8]).flatten by kernel_rfl) (hval 0 29 v0 rfl rfl) h0
  obtain ⟨u1, hu1⟩ := okWide_int Try.underlying3 (hval 1 3 v1 rfl rfl)
  obtain ⟨a1, ok1, rfl⟩ := open_prim (.int .i64) (fun n : Int => -9223372036854775808 ≤ n ∧ n ≤ 9223372036854775807) (fun v h => fits_prim_i64 h) (show flatT Try.prog 1 3 = some [.int .i64] by kernel_rfl) ⟨_, hu1, rfl⟩ h1
  obtain ⟨u2, hu2⟩ := okWide_int Try.underlying5 (hval 2 5 v2 rfl rfl)
  obtain ⟨a2, ok2, rfl⟩ := open_prim (.int .u8) (fun n : Int => 0 ≤ n ∧ n ≤ 255) (fun v h => fits_prim_u8 h) (show flatT Try.prog 1 5 = some [.int .u8] by kernel_rfl) ⟨_, hu2, rfl⟩ h2
  exact ⟨[.val (.agg (tc a0).toArray), .val (.int .i64 a1), .val (.int .u8 a2)], (reps_cons (.val _) (reps_cons (.val _) (reps_cons (.val _) reps_nil))), rspoilt_d a0 ok0 a1 a2 ok2⟩
theorem wspoilt_holds : Rows.RunsSpoiltSaid :=
  OpenClaim.holds_of_wide 7 Try.f7 rfl rfl rfl rfl rfl rfl rfl ⟨rfl, rfl, rfl, rfl, rfl⟩ rfl rfl rfl rfl rfl (by kernel_rfl) Try.func7 (by kernel_rfl)
    (of_decide_eq_true (by kernel_rfl)) (by unfold Func.isWrapper; rw [if_neg (of_decide_eq_false (by kernel_rfl))]; exact ⟨rfl, rfl⟩)
    (fun os started H enc _ => lift_law (s := Rows.runsSpoiltSpec) (conds := Rows.runsSpoiltRow.domain) started (by kernel_rfl) Try.func7
      (ChangeSpec.witness6 (enc := enc) (C := Try.checked) false ⟨#[], #[.agg (tc zT).toArray, .int .i64 0, .int .u8 0], []⟩ 8 (by kernel_rfl) (by kernel_rfl) (by kernel_rfl) (by kernel_rfl))
      [29, 3, 5] 4 (by rw [Try.params7]) (by kernel_rfl) Try.underlying4 (by kernel_rfl) rfl
      (fun ds h => by match ds, h with | [d0, d1, d2], _ => rfl) wspoilt_walked)
end Go.Proofs.Ytcbfnbfhlofkiaa
