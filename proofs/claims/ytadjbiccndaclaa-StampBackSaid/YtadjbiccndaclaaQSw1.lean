/- The law StampBack of layer 9 holds: for every stamp and number of quarters the program answers true, and does not panic. No other condition. -/
import Derived.Test.YtadjbiccndaclaaQSw1x1
import Derived.Test.YtadjbiccndaclaaRows
namespace Go.Proofs.Ytadjbiccndaclaa
set_option maxRecDepth 4000
set_option linter.unusedVariables false
set_option linter.unusedSimpArgs false
open Go.RowKit
open Go.ChangeShapes Go.WideShapes Go.ChangeAt Go.Joins Go.Deep
set_option maxRecDepth 20000
theorem wback_walked : Walked 6 [24, 3] := walked_of fun H enc W base args ds p hA hval => by
  obtain ⟨v0, v1, d0, d1, p0, p1, rfl, rfl, rfl, h0, h1⟩ := trodAll_two hA
  obtain ⟨a0, ok0, r0⟩ := open_agg (mk := stL) (ok := fun a => ∀ c ∈ a.2.2, c.rng) Try.underlying24 (opens_stm) (hval 0 24 v0 rfl rfl) h0
  obtain ⟨u1, hu1⟩ := okWide_int Try.underlying3 (hval 1 3 v1 rfl rfl)
  obtain ⟨a1, ok1, rfl⟩ := open_prim (.int .i64) (fun n : Int => -9223372036854775808 ≤ n ∧ n ≤ 9223372036854775807) (fun v h => fits_prim_i64 h) (show flatT Try.prog 1 3 = some [.int .i64] by kernel_rfl) ⟨_, hu1, rfl⟩ h1
  exact ⟨[.agg ((stL) a0), .val (.int .i64 a1)], (reps_cons r0 (reps_cons (.val _) reps_nil)), sback_d a0.1 a0.2.1 a0.2.2 a1⟩
theorem wback_holds : Rows.StampBackSaid :=
  OpenClaim.holds_of_wide 6 Try.f6 rfl rfl rfl rfl rfl rfl rfl ⟨rfl, rfl, rfl, rfl, rfl⟩ rfl rfl rfl rfl rfl (by kernel_rfl) Try.func6 (by kernel_rfl)
    (of_decide_eq_true (by kernel_rfl)) (by unfold Func.isWrapper; rw [if_neg (of_decide_eq_false (by kernel_rfl))]; exact ⟨rfl, rfl⟩)
    (fun os started H enc _ => lift_law (s := Rows.stampBackSpec) (conds := Rows.stampBackRow.domain) started (by kernel_rfl) Try.func6
      (ChangeSpec.witness6 (enc := enc) (C := Try.checked) false ⟨#[], #[.agg #[.int .i64 0, .int .i64 0, .slice none 0 0], .int .i64 0], []⟩ 8 (by kernel_rfl) (by kernel_rfl) (by kernel_rfl) (by kernel_rfl))
      [24, 3] 4 (by rw [Try.params6]) (by kernel_rfl) Try.underlying4 (by kernel_rfl) rfl
      (fun ds h => by match ds, h with | [d0, d1], _ => rfl) wback_walked)
end Go.Proofs.Ytadjbiccndaclaa
