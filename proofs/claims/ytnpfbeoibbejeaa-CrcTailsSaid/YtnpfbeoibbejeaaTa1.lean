/- The law CrcTails of layer 2 holds: for every row of two sums the program answers true, and does not panic. No other condition. -/
import Derived.Test.YtnpfbeoibbejeaaFi
import Derived.Test.YtnpfbeoibbejeaaRows
import Derived.Test.YtnpfbeoibbejeaaLs
namespace Go.Proofs.Ytnpfbeoibbejeaa
set_option linter.unusedVariables false
set_option linter.unusedSimpArgs false
open Go.RowKit
open Go.ChangeShapes Go.WideShapes Go.ChangeAt Go.Joins Go.Deep

set_option maxRecDepth 20000 in
theorem tails_walked : Walked 5 [35] := walked_of fun H enc W base args ds p hA hval => by
  obtain ⟨v0, d0, rfl, rfl, h0⟩ := trodAll_one hA
  obtain ⟨s0, n0, c0, rfl⟩ := okWide_slice Try.underlying35 (hval 0 35 v0 rfl rfl)
  obtain ⟨a0, hx0, ok0, hc0, hm0, hz0⟩ := open_row 4 w2 (fun p : Nat × Nat => p.1 < 2 ^ 32 ∧ p.2 < 2 ^ 32) fits_w2 Try.underlying35 (show flatT Try.prog 4 41 = some [.int .u32, .int .u32] by kernel_rfl) (by kernel_rfl) (by decide) h0
  exact ⟨[.slf 2 a0.length (a0.flatMap w2)], (reps_cons (rep_row hx0 hc0 hm0 hz0 (fun _ => rfl)) reps_nil), tails_d a0 ok0⟩
theorem tails_holds : Rows.CrcTailsSaid :=
  OpenClaim.holds_of_wide 5 Try.f5 rfl rfl rfl rfl rfl rfl rfl ⟨rfl, rfl, rfl, rfl, rfl⟩ rfl rfl rfl rfl rfl (by kernel_rfl) Try.func5 (by kernel_rfl)
    (of_decide_eq_true (by kernel_rfl)) (by unfold Func.isWrapper; rw [if_neg (of_decide_eq_false (by kernel_rfl))]; exact ⟨rfl, rfl⟩)
    (fun os started H enc _ => lift_law (s := Rows.crcTailsSpec) (conds := Rows.crcTailsRow.domain) started (by kernel_rfl) Try.func5
      (ChangeSpec.witness6 (enc := enc) (C := Try.checked) false ⟨#[], #[.slice none 0 0], []⟩ 8 (by kernel_rfl) (by kernel_rfl) (by kernel_rfl) (by kernel_rfl))
      [35] 4 (by rw [Try.params5]) (by kernel_rfl) Try.underlying4 (by kernel_rfl) rfl
      (fun ds h => by match ds, h with | [d0], _ => rfl) tails_walked)

end Go.Proofs.Ytnpfbeoibbejeaa
