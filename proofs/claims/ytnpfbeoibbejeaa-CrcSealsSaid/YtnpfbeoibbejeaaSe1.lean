/- The law CrcSeals of layer 2 holds: for every row of bytes, and row of places and masks the program answers true, and does not panic. No other condition. -/
import Derived.Test.YtnpfbeoibbejeaaFi
import Derived.Test.YtnpfbeoibbejeaaKt
import Derived.Test.YtnpfbeoibbejeaaRows
import Derived.Test.YtnpfbeoibbejeaaLs
namespace Go.Proofs.Ytnpfbeoibbejeaa
set_option linter.unusedVariables false
set_option linter.unusedSimpArgs false
open Go.RowKit
open Go.ChangeShapes Go.WideShapes Go.ChangeAt Go.Joins Go.Deep

set_option maxRecDepth 20000 in
theorem seals_walked : Walked 4 [25, 35] := walked_of fun H enc W base args ds p hA hval => by
  obtain ⟨v0, v1, d0, d1, p0, p1, rfl, rfl, rfl, h0, h1⟩ := trodAll_two hA
  obtain ⟨s0, n0, c0, rfl⟩ := okWide_slice Try.underlying25 (hval 0 25 v0 rfl rfl)
  obtain ⟨a0, hx0, ok0, hc0, hm0, hz0⟩ := open_row 4 un8 (fun n : Nat => n < 256) fits_n8 Try.underlying25 (show flatT Try.prog 4 5 = some [.int .u8] by kernel_rfl) (by kernel_rfl) (by decide) h0
  obtain ⟨s1, n1, c1, rfl⟩ := okWide_slice Try.underlying35 (hval 1 35 v1 rfl rfl)
  obtain ⟨a1, hx1, ok1, hc1, hm1, hz1⟩ := open_row 4 w2 (fun p : Nat × Nat => p.1 < 2 ^ 32 ∧ p.2 < 2 ^ 32) fits_w2 Try.underlying35 (show flatT Try.prog 4 41 = some [.int .u32, .int .u32] by kernel_rfl) (by kernel_rfl) (by decide) h1
  exact ⟨[.slf 1 a0.length (a0.flatMap un8), .slf 2 a1.length (a1.flatMap w2)], (reps_cons (rep_row hx0 hc0 hm0 hz0 (fun _ => rfl)) (reps_cons (rep_row hx1 hc1 hm1 hz1 (fun _ => rfl)) reps_nil)), seals_d a0 a1 ok0 ok1⟩
theorem seals_holds : Rows.CrcSealsSaid :=
  OpenClaim.holds_of_wide 4 Try.f4 rfl rfl rfl rfl rfl rfl rfl ⟨rfl, rfl, rfl, rfl, rfl⟩ rfl rfl rfl rfl rfl (by kernel_rfl) Try.func4 (by kernel_rfl)
    (of_decide_eq_true (by kernel_rfl)) (by unfold Func.isWrapper; rw [if_neg (of_decide_eq_false (by kernel_rfl))]; exact ⟨rfl, rfl⟩)
    (fun os started H enc _ => lift_law (s := Rows.crcSealsSpec) (conds := Rows.crcSealsRow.domain) started (by kernel_rfl) Try.func4
      (ChangeSpec.witness6 (enc := enc) (C := Try.checked) false ⟨#[], #[.slice none 0 0, .slice none 0 0], []⟩ 8 (by kernel_rfl) (by kernel_rfl) (by kernel_rfl) (by kernel_rfl))
      [25, 35] 4 (by rw [Try.params4]) (by kernel_rfl) Try.underlying4 (by kernel_rfl) rfl
      (fun ds h => by match ds, h with | [d0, d1], _ => rfl) seals_walked)

end Go.Proofs.Ytnpfbeoibbejeaa
