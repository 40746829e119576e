/- The law StampLays of layer 9 holds: for every canvas, stamp, and rectangle the program answers true, and does not panic. No other condition. -/
import Derived.Test.YtadjbiccndaclaaQSw3x1
import Derived.Test.YtadjbiccndaclaaRows
namespace Go.Proofs.Ytadjbiccndaclaa
set_option maxRecDepth 4000
set_option linter.unusedVariables false
set_option linter.unusedSimpArgs false
open Go.RowKit
open Go.ChangeShapes Go.WideShapes Go.ChangeAt Go.Joins Go.Deep
set_option maxRecDepth 20000
theorem wlays_walked : Walked 5 [55, 24, 57] := walked_of fun H enc W base args ds p hA hval => by
  obtain ⟨v0, v1, v2, d0, d1, d2, p0, p1, p2, rfl, rfl, rfl, h0, h1, h2⟩ := trodAll_three hA
  obtain ⟨a0, ok0, r0⟩ := open_agg (mk := shL) (ok := fun a => tsRng a.2.2) Try.underlying55 (opens_cv) (hval 0 55 v0 rfl rfl) h0
  obtain ⟨a1, ok1, r1⟩ := open_agg (mk := stL) (ok := fun a => ∀ c ∈ a.2.2, c.rng) Try.underlying24 (opens_stm) (hval 1 24 v1 rfl rfl) h1
  obtain ⟨a2, ok2, r2⟩ := open_agg (mk := rcL) (ok := fun a => ∀ p ∈ a.2.2.2.2, p.rng) Try.underlying57 (opens_rc) (hval 2 57 v2 rfl rfl) h2
  exact ⟨[.agg ((shL) a0), .agg ((stL) a1), .agg ((rcL) a2)], (reps_cons r0 (reps_cons r1 (reps_cons r2 reps_nil))), slays_d a0.1 a0.2.1 a0.2.2 ok0 a1.1 a1.2.1 a1.2.2 ok1 a2.1 a2.2.1 a2.2.2.1 a2.2.2.2.1 a2.2.2.2.2 ok2⟩
theorem wlays_holds : Rows.StampLaysSaid :=
  OpenClaim.holds_of_wide 5 Try.f5 rfl rfl rfl rfl rfl rfl rfl ⟨rfl, rfl, rfl, rfl, rfl⟩ rfl rfl rfl rfl rfl (by kernel_rfl) Try.func5 (by kernel_rfl)
    (of_decide_eq_true (by kernel_rfl)) (by unfold Func.isWrapper; rw [if_neg (of_decide_eq_false (by kernel_rfl))]; exact ⟨rfl, rfl⟩)
    (fun os started H enc _ => lift_law (s := Rows.stampLaysSpec) (conds := Rows.stampLaysRow.domain) started (by kernel_rfl) Try.func5
      (ChangeSpec.witness6 (enc := enc) (C := Try.checked) false ⟨#[], #[.agg #[.int .i64 0, .int .i64 0, .slice none 0 0], .agg #[.int .i64 0, .int .i64 0, .slice none 0 0], .agg #[.int .i64 0, .int .i64 0, .int .i64 0, .int .i64 0, .slice none 0 0]], []⟩ 8 (by kernel_rfl) (by kernel_rfl) (by kernel_rfl) (by kernel_rfl))
      [55, 24, 57] 4 (by rw [Try.params5]) (by kernel_rfl) Try.underlying4 (by kernel_rfl) rfl
      (fun ds h => by match ds, h with | [d0, d1, d2], _ => rfl) wlays_walked)
end Go.Proofs.Ytadjbiccndaclaa
