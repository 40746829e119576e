/- The law OctetBack of layer 1 holds: for every row of widths, of numbers, and of bytes the program answers true, and does not panic. No other condition. -/
import Derived.Test.YtfdekahbojoodaaOy
import Derived.Test.YtfdekahbojoodaaFi
import Derived.Test.YtfdekahbojoodaaRows
import Derived.Test.YtfdekahbojoodaaLs
namespace Go.Proofs.Ytfdekahbojoodaa
set_option linter.unusedVariables false
set_option linter.unusedSimpArgs false
open Go.RowKit
open Go.ChangeShapes Go.WideShapes Go.ChangeAt Go.Joins Go.Deep

theorem back_walked : Walked 5 [41, 42, 22] := walked_of fun H enc W base args ds p hA hval => by
  obtain ⟨v0, v1, v2, d0, d1, d2, p0, p1, p2, rfl, rfl, rfl, h0, h1, h2⟩ := trodAll_three hA
  obtain ⟨s0, n0, c0, rfl⟩ := okWide_slice Try.underlying41 (hval 0 41 v0 rfl rfl)
  obtain ⟨a0, hx0, ok0, hc0, hm0, hz0⟩ := open_row 4 ic (fun n : Int => -9223372036854775808 ≤ n ∧ n ≤ 9223372036854775807) fits_i64 Try.underlying41 (show flatT Try.prog 4 3 = some [.int .i64] by kernel_rfl) (by kernel_rfl) (by decide) h0
  obtain ⟨s1, n1, c1, rfl⟩ := okWide_slice Try.underlying42 (hval 1 42 v1 rfl rfl)
  obtain ⟨a1, hx1, ok1, hc1, hm1, hz1⟩ := open_row 4 uc (fun n : Int => 0 ≤ n ∧ n ≤ 18446744073709551615) fits_u64 Try.underlying42 (show flatT Try.prog 4 26 = some [.int .u64] by kernel_rfl) (by kernel_rfl) (by decide) h1
  obtain ⟨s2, n2, c2, rfl⟩ := okWide_slice Try.underlying22 (hval 2 22 v2 rfl rfl)
  obtain ⟨a2, hx2, ok2, hc2, hm2, hz2⟩ := open_row 4 uc8 (fun n : Int => 0 ≤ n ∧ n ≤ 255) fits_u8 Try.underlying22 (show flatT Try.prog 4 5 = some [.int .u8] by kernel_rfl) (by kernel_rfl) (by decide) h2
  exact ⟨[.slf 1 a0.length (a0.flatMap ic), .slf 1 a1.length (a1.flatMap uc), .slf 1 a2.length (a2.flatMap uc8)], (reps_cons (rep_row hx0 hc0 hm0 hz0 (fun _ => rfl)) (reps_cons (rep_row hx1 hc1 hm1 hz1 (fun _ => rfl)) (reps_cons (rep_row hx2 hc2 hm2 hz2 (fun _ => rfl)) reps_nil))), back_d a0 a1 a2 ok1 ok2⟩
theorem back_holds : Rows.OctetBackSaid :=
  OpenClaim.holds_of_wide 5 Try.f5 rfl rfl rfl rfl rfl rfl rfl ⟨rfl, rfl, rfl, rfl, rfl⟩ rfl rfl rfl rfl rfl (by kernel_rfl) Try.func5 (by kernel_rfl)
    (of_decide_eq_true (by kernel_rfl)) (by unfold Func.isWrapper; rw [if_neg (of_decide_eq_false (by kernel_rfl))]; exact ⟨rfl, rfl⟩)
    (fun os started H enc _ => lift_law (s := Rows.octetBackSpec) (conds := Rows.octetBackRow.domain) started (by kernel_rfl) Try.func5
      (ChangeSpec.witness6 (enc := enc) (C := Try.checked) false ⟨#[], #[.slice none 0 0, .slice none 0 0, .slice none 0 0], []⟩ 8 (by kernel_rfl) (by kernel_rfl) (by kernel_rfl) (by kernel_rfl))
      [41, 42, 22] 4 (by rw [Try.params5]) (by kernel_rfl) Try.underlying4 (by kernel_rfl) rfl
      (fun ds h => by match ds, h with | [d0, d1, d2], _ => rfl) back_walked)

end Go.Proofs.Ytfdekahbojoodaa
