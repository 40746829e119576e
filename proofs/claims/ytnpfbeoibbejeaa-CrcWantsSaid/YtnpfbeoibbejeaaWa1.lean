/- The law CrcWants of layer 2 holds: for every row of bytes, sum and four bytes the program answers true, and does not panic. No other condition. -/
import Derived.Test.YtnpfbeoibbejeaaFi
import Derived.Test.YtnpfbeoibbejeaaRows
import Derived.Test.YtnpfbeoibbejeaaLs
namespace Go.Proofs.Ytnpfbeoibbejeaa
set_option linter.unusedVariables false
set_option linter.unusedSimpArgs false
open Go.RowKit
open Go.ChangeShapes Go.WideShapes Go.ChangeAt Go.Joins Go.Deep

set_option maxRecDepth 20000 in
theorem wants_walked : Walked 8 [25, 27, 45] := walked_of fun H enc W base args ds p hA hval => by
  obtain ⟨v0, v1, v2, d0, d1, d2, p0, p1, p2, rfl, rfl, rfl, h0, h1, h2⟩ := trodAll_three hA
  obtain ⟨s0, n0, c0, rfl⟩ := okWide_slice Try.underlying25 (hval 0 25 v0 rfl rfl)
  obtain ⟨a0, hx0, ok0, hc0, hm0, hz0⟩ := open_row 4 un8 (fun n : Nat => n < 256) fits_n8 Try.underlying25 (show flatT Try.prog 4 5 = some [.int .u8] by kernel_rfl) (by kernel_rfl) (by decide) h0
  obtain ⟨u1, hu1⟩ := okWide_int Try.underlying27 (hval 1 27 v1 rfl rfl)
  obtain ⟨a1, ok1, rfl⟩ := open_prim (.int .u32) (fun n : Int => 0 ≤ n ∧ n < 4294967296) (fun v h => fits_prim_u32 h) (show flatT Try.prog 1 27 = some [.int .u32] by kernel_rfl) ⟨_, hu1, rfl⟩ h1
  obtain ⟨a2, ok2, rfl⟩ := open_arrayT 4 (fun t : Nat => (four t).flatMap un8) (fun t : Nat => t < 2 ^ 32) fits_n4 Try.underlying45 (show flatT Try.prog 4 45 = some [.int .u8, .int .u8, .int .u8, .int .u8] by kernel_rfl) (hval 2 45 v2 rfl rfl) h2
  exact ⟨[.slf 1 a0.length (a0.flatMap un8), .val (.int .u32 a1), .val (.agg ((fun t : Nat => (four t).flatMap un8) a2).toArray)], (reps_cons (rep_row hx0 hc0 hm0 hz0 (fun _ => rfl)) (reps_cons (.val _) (reps_cons (.val _) reps_nil))), wants_n a0 a1 a2 ok0 ok1 ok2⟩
theorem wants_holds : Rows.CrcWantsSaid :=
  OpenClaim.holds_of_wide 8 Try.f8 rfl rfl rfl rfl rfl rfl rfl ⟨rfl, rfl, rfl, rfl, rfl⟩ rfl rfl rfl rfl rfl (by kernel_rfl) Try.func8 (by kernel_rfl)
    (of_decide_eq_true (by kernel_rfl)) (by unfold Func.isWrapper; rw [if_neg (of_decide_eq_false (by kernel_rfl))]; exact ⟨rfl, rfl⟩)
    (fun os started H enc _ => lift_law (s := Rows.crcWantsSpec) (conds := Rows.crcWantsRow.domain) started (by kernel_rfl) Try.func8
      (ChangeSpec.witness6 (enc := enc) (C := Try.checked) false ⟨#[], #[.slice none 0 0, .int .u32 0, .agg #[.int .u8 0, .int .u8 0, .int .u8 0, .int .u8 0]], []⟩ 8 (by kernel_rfl) (by kernel_rfl) (by kernel_rfl) (by kernel_rfl))
      [25, 27, 45] 4 (by rw [Try.params8]) (by kernel_rfl) Try.underlying4 (by kernel_rfl) rfl
      (fun ds h => by match ds, h with | [d0, d1, d2], _ => rfl) wants_walked)

end Go.Proofs.Ytnpfbeoibbejeaa
