/- The law SnapGathers of layer 21 holds: for every number, bytes, and turns the program answers true, and does not panic. No other condition. -/
import Derived.Test.YtofklkbfkoliiaaQ7
import Derived.Test.YtofklkbfkoliiaaRows
set_option maxRecDepth 20000
open List renaming cons_append → qas, nil_append → qaw
namespace Go.Proofs.Ytofklkbfkoliiaa
set_option linter.unusedVariables false
set_option linter.unusedSimpArgs false
open Go.RowKit
open Go.ChangeShapes Go.WideShapes Go.ChangeAt Go.Joins Go.Deep
theorem z6 : Walked 3 [22, 23, 24] := Vd fun H enc W base args ds p hA hval => by
 obtain ⟨v0, v1, v2, d0, d1, d2, p0, p1, p2, rfl, rfl, rfl, h0, h1, h2⟩ := trodAll_three hA
 obtain ⟨u0, hu0⟩ := okWide_int Try.underlying22 (hval 0 22 v0 rfl rfl)
 obtain ⟨a0, ok0, rfl⟩ := Ve (.int .u64) (fun n : Int => 0 ≤ n ∧ n ≤ 18446744073709551615) (fun v h => Kg h) (show um Try.prog 1 22 = some [.int .u64] by kernel_rfl) ⟨_, hu0, rfl⟩ h0
 obtain ⟨s1, n1, c1, rfl⟩ := okWide_slice Try.underlying23 (hval 1 23 v1 rfl rfl)
 obtain ⟨a1, hx1, ok1, hc1, hm1, hz1⟩ := JU 4 uc8 (fun n : Int => 0 ≤ n ∧ n ≤ 255) Xv Try.underlying23 (show um Try.prog 4 5 = some [.int .u8] by kernel_rfl) (by kernel_rfl) (by decide) h1
 obtain ⟨s2, n2, c2, rfl⟩ := okWide_slice Try.underlying24 (hval 2 24 v2 rfl rfl)
 obtain ⟨a2, hx2, ok2, hc2, hm2, hz2⟩ := JU 4 inI (fun n : Int => -9223372036854775808 ≤ n ∧ n ≤ 9223372036854775807) Xw Try.underlying24 (show um Try.prog 4 3 = some [.int .i64] by kernel_rfl) (by kernel_rfl) (by decide) h2
 exact ⟨[.val (.int .u64 a0), .slf 1 a1.length (a1.flatMap uc8), .slf 1 a2.length (a2.flatMap inI)], (uW (.val _) (uW (Y6 hx1 hc1 hm1 hz1 (fun _ => rfl)) (uW (Y6 hx2 hc2 hm2 hz2 (fun _ => rfl)) WB))), qai a0 a1 a2 ok2⟩
theorem wsngath_holds : Rows.SnapGathersSaid :=
 OpenClaim.holds_of_wide 3 Try.f3 rfl rfl rfl rfl rfl rfl rfl ⟨rfl, rfl, rfl, rfl, rfl⟩ rfl rfl rfl rfl rfl (by kernel_rfl) Try.func3 (by kernel_rfl)
  (of_decide_eq_true (by kernel_rfl)) (by unfold Func.isWrapper; rw [if_neg (of_decide_eq_false (by kernel_rfl))]; exact ⟨rfl, rfl⟩)
  (fun os started H enc _ => Wu (s := Rows.snapGathersSpec) (conds := Rows.snapGathersRow.domain) started (by kernel_rfl) Try.func3
   (ChangeSpec.witness6 (enc := enc) (C := Try.checked) false ⟨#[], #[.int .u64 0, .slice none 0 0, .slice none 0 0], []⟩ 8 (by kernel_rfl) (by kernel_rfl) (by kernel_rfl) (by kernel_rfl))
   [22, 23, 24] 4 (by rw [Try.params3]) (by kernel_rfl) Try.underlying4 (by kernel_rfl) rfl
   (fun ds h => by match ds, h with | [d0, d1, d2], _ => rfl) z6)
end Go.Proofs.Ytofklkbfkoliiaa
