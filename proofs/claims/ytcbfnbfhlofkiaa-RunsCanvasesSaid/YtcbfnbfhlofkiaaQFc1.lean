/- The law RunsCanvases of layer 10 holds: for every two canvases, and bytes the program answers true, and does not panic. No other condition. -/
import Derived.Test.YtcbfnbfhlofkiaaQFc1x2
import Derived.Test.YtcbfnbfhlofkiaaRows
namespace Go.Proofs.Ytcbfnbfhlofkiaa
set_option maxRecDepth 4000
set_option linter.unusedVariables false
set_option linter.unusedSimpArgs false
open Go.RowKit
open Go.ChangeShapes Go.WideShapes Go.ChangeAt Go.Joins Go.Deep
set_option maxRecDepth 20000
theorem wcanv_walked : Walked 4 [41, 41, 23] := walked_of fun H enc W base args ds p hA hval => by
  obtain ⟨v0, v1, v2, d0, d1, d2, p0, p1, p2, rfl, rfl, rfl, h0, h1, h2⟩ := trodAll_three hA
  obtain ⟨a0, ok0, r0⟩ := open_agg (mk := shL) (ok := fun a => tsRng a.2.2) Try.underlying41 (opens_cv) (hval 0 41 v0 rfl rfl) h0
  obtain ⟨a1, ok1, r1⟩ := open_agg (mk := shL) (ok := fun a => tsRng a.2.2) Try.underlying41 (opens_cv) (hval 1 41 v1 rfl rfl) h1
  obtain ⟨s2, n2, c2, rfl⟩ := okWide_slice Try.underlying23 (hval 2 23 v2 rfl rfl)
  obtain ⟨a2, hx2, ok2, hc2, hm2, hz2⟩ := open_row 4 u8V (fun n : Int => 0 ≤ n ∧ n ≤ 255) fits_u8V Try.underlying23 (show flatT Try.prog 4 5 = some [.int .u8] by kernel_rfl) (by kernel_rfl) (by decide) h2
  exact ⟨[.agg ((shL) a0), .agg ((shL) a1), .slf 1 a2.length (a2.flatMap u8V)], (reps_cons r0 (reps_cons r1 (reps_cons (rep_row hx2 hc2 hm2 hz2 (fun _ => rfl)) reps_nil))), rcanv_d a0.1 a0.2.1 a0.2.2 a1.1 a1.2.1 a1.2.2 a2 ok2⟩
theorem wcanv_holds : Rows.RunsCanvasesSaid :=
  OpenClaim.holds_of_wide 4 Try.f4 rfl rfl rfl rfl rfl rfl rfl ⟨rfl, rfl, rfl, rfl, rfl⟩ rfl rfl rfl rfl rfl (by kernel_rfl) Try.func4 (by kernel_rfl)
    (of_decide_eq_true (by kernel_rfl)) (by unfold Func.isWrapper; rw [if_neg (of_decide_eq_false (by kernel_rfl))]; exact ⟨rfl, rfl⟩)
    (fun os started H enc _ => lift_law (s := Rows.runsCanvasesSpec) (conds := Rows.runsCanvasesRow.domain) started (by kernel_rfl) Try.func4
      (ChangeSpec.witness6 (enc := enc) (C := Try.checked) false ⟨#[], #[.agg #[.int .i64 0, .int .i64 0, .slice none 0 0], .agg #[.int .i64 0, .int .i64 0, .slice none 0 0], .slice none 0 0], []⟩ 8 (by kernel_rfl) (by kernel_rfl) (by kernel_rfl) (by kernel_rfl))
      [41, 41, 23] 4 (by rw [Try.params4]) (by kernel_rfl) Try.underlying4 (by kernel_rfl) rfl
      (fun ds h => by match ds, h with | [d0, d1, d2], _ => rfl) wcanv_walked)
end Go.Proofs.Ytcbfnbfhlofkiaa
