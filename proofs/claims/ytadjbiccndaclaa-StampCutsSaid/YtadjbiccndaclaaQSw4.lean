/- The law StampCuts of layer 9 holds: for every canvas, stamp, and place the program answers true, and does not panic. No other condition. -/
import Derived.Test.YtadjbiccndaclaaQSw4x1
import Derived.Test.YtadjbiccndaclaaRows
namespace Go.Proofs.Ytadjbiccndaclaa
set_option maxRecDepth 4000
set_option linter.unusedVariables false
set_option linter.unusedSimpArgs false
open Go.RowKit
open Go.ChangeShapes Go.WideShapes Go.ChangeAt Go.Joins Go.Deep
set_option maxRecDepth 20000
theorem wcuts_walked : Walked 7 [55, 24, 36] := walked_of fun H enc W base args ds p hA hval => by
  obtain ⟨v0, v1, v2, d0, d1, d2, p0, p1, p2, rfl, rfl, rfl, h0, h1, h2⟩ := trodAll_three hA
  obtain ⟨a0, ok0, r0⟩ := open_agg (mk := shL) (ok := fun a => tsRng a.2.2) Try.underlying55 (opens_cv) (hval 0 55 v0 rfl rfl) h0
  obtain ⟨a1, ok1, r1⟩ := open_agg (mk := stL) (ok := fun a => ∀ c ∈ a.2.2, c.rng) Try.underlying24 (opens_stm) (hval 1 24 v1 rfl rfl) h1
  obtain ⟨a2, ok2, rfl⟩ := open_struct 4 Go.Proofs.Ytadjbiccndaclaa.p2 (Go.Proofs.Ytadjbiccndaclaa.P2.rng) fits_p2 Try.underlying36 (show flatT Try.prog 4 36 = some [.int .i64, .int .i64] by kernel_rfl) (hval 2 36 v2 rfl rfl) h2
  exact ⟨[.agg ((shL) a0), .agg ((stL) a1), .val (.agg (Go.Proofs.Ytadjbiccndaclaa.p2 a2).toArray)], (reps_cons r0 (reps_cons r1 (reps_cons (.val _) reps_nil))), scuts_d a0.1 a0.2.1 a0.2.2 ok0 a1.1 a1.2.1 a1.2.2 ok1 a2 ok2⟩
theorem wcuts_holds : Rows.StampCutsSaid :=
  OpenClaim.holds_of_wide 7 Try.f7 rfl rfl rfl rfl rfl rfl rfl ⟨rfl, rfl, rfl, rfl, rfl⟩ rfl rfl rfl rfl rfl (by kernel_rfl) Try.func7 (by kernel_rfl)
    (of_decide_eq_true (by kernel_rfl)) (by unfold Func.isWrapper; rw [if_neg (of_decide_eq_false (by kernel_rfl))]; exact ⟨rfl, rfl⟩)
    (fun os started H enc _ => lift_law (s := Rows.stampCutsSpec) (conds := Rows.stampCutsRow.domain) started (by kernel_rfl) Try.func7
      (ChangeSpec.witness6 (enc := enc) (C := Try.checked) false ⟨#[], #[.agg #[.int .i64 0, .int .i64 0, .slice none 0 0], .agg #[.int .i64 0, .int .i64 0, .slice none 0 0], .agg #[.int .i64 0, .int .i64 0]], []⟩ 8 (by kernel_rfl) (by kernel_rfl) (by kernel_rfl) (by kernel_rfl))
      [55, 24, 36] 4 (by rw [Try.params7]) (by kernel_rfl) Try.underlying4 (by kernel_rfl) rfl
      (fun ds h => by match ds, h with | [d0, d1, d2], _ => rfl) wcuts_walked)
end Go.Proofs.Ytadjbiccndaclaa
