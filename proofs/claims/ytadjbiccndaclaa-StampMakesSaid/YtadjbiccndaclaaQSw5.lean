/- The law StampMakes of layer 9 holds: for every row of sizes, colour, and pixels the program answers true, and does not panic. No other condition. -/
import Derived.Test.YtadjbiccndaclaaQSw5x1
import Derived.Test.YtadjbiccndaclaaRows
namespace Go.Proofs.Ytadjbiccndaclaa
set_option maxRecDepth 4000
set_option linter.unusedVariables false
set_option linter.unusedSimpArgs false
open Go.RowKit
open Go.ChangeShapes Go.WideShapes Go.ChangeAt Go.Joins Go.Deep
set_option maxRecDepth 20000
theorem wmakes_walked : Walked 4 [45, 38, 22] := walked_of fun H enc W base args ds p hA hval => by
  obtain ⟨v0, v1, v2, d0, d1, d2, p0, p1, p2, rfl, rfl, rfl, h0, h1, h2⟩ := trodAll_three hA
  obtain ⟨s0, n0, c0, rfl⟩ := okWide_slice Try.underlying45 (hval 0 45 v0 rfl rfl)
  obtain ⟨a0, hx0, ok0, hc0, hm0, hz0⟩ := open_row 4 Go.Proofs.Ytadjbiccndaclaa.p2 (Go.Proofs.Ytadjbiccndaclaa.P2.rng) fits_p2 Try.underlying45 (show flatT Try.prog 4 47 = some [.int .i64, .int .i64] by kernel_rfl) (by kernel_rfl) (by decide) h0
  obtain ⟨a1, ok1, rfl⟩ := open_struct 4 c4 (C4.rng) fits_c4 Try.underlying38 (show flatT Try.prog 4 38 = some [.int .u8, .int .u8, .int .u8, .int .u8] by kernel_rfl) (hval 1 38 v1 rfl rfl) h1
  obtain ⟨s2, n2, c2, rfl⟩ := okWide_slice Try.underlying22 (hval 2 22 v2 rfl rfl)
  obtain ⟨a2, hx2, ok2, hc2, hm2, hz2⟩ := open_row 4 c4 (C4.rng) fits_c4 Try.underlying22 (show flatT Try.prog 4 38 = some [.int .u8, .int .u8, .int .u8, .int .u8] by kernel_rfl) (by kernel_rfl) (by decide) h2
  exact ⟨[.slf 2 a0.length (a0.flatMap Go.Proofs.Ytadjbiccndaclaa.p2), .val (.agg (c4 a1).toArray), .slf 4 a2.length (a2.flatMap c4)], (reps_cons (rep_row hx0 hc0 hm0 hz0 (fun _ => rfl)) (reps_cons (.val _) (reps_cons (rep_row hx2 hc2 hm2 hz2 (fun _ => rfl)) reps_nil))), smakes_d a0 a1 a2⟩
theorem wmakes_holds : Rows.StampMakesSaid :=
  OpenClaim.holds_of_wide 4 Try.f4 rfl rfl rfl rfl rfl rfl rfl ⟨rfl, rfl, rfl, rfl, rfl⟩ rfl rfl rfl rfl rfl (by kernel_rfl) Try.func4 (by kernel_rfl)
    (of_decide_eq_true (by kernel_rfl)) (by unfold Func.isWrapper; rw [if_neg (of_decide_eq_false (by kernel_rfl))]; exact ⟨rfl, rfl⟩)
    (fun os started H enc _ => lift_law (s := Rows.stampMakesSpec) (conds := Rows.stampMakesRow.domain) started (by kernel_rfl) Try.func4
      (ChangeSpec.witness6 (enc := enc) (C := Try.checked) false ⟨#[], #[.slice none 0 0, .agg #[.int .u8 0, .int .u8 0, .int .u8 0, .int .u8 0], .slice none 0 0], []⟩ 8 (by kernel_rfl) (by kernel_rfl) (by kernel_rfl) (by kernel_rfl))
      [45, 38, 22] 4 (by rw [Try.params4]) (by kernel_rfl) Try.underlying4 (by kernel_rfl) rfl
      (fun ds h => by match ds, h with | [d0, d1, d2], _ => rfl) wmakes_walked)
end Go.Proofs.Ytadjbiccndaclaa
