/- The law JournalScans of layer 23 holds: for every row of bytes the program answers true, and does not panic. No other condition. -/
import Derived.Test.YtfdmfklofgmpfaaFi
import Derived.Test.YtfdmfklofgmpfaaJs
import Derived.Test.YtfdmfklofgmpfaaRows
import Derived.Test.YtfdmfklofgmpfaaLs
namespace Go.Proofs.Ytfdmfklofgmpfaa
set_option linter.unusedVariables false
set_option linter.unusedSimpArgs false
open Go.RowKit
open Go.ChangeShapes Go.WideShapes Go.ChangeAt Go.Joins Go.Deep

set_option maxRecDepth 20000 in
theorem jscans_walked : Walked 3 [22] := walked_of fun H enc W base args ds p hA hval => by
  obtain ⟨v0, d0, rfl, rfl, h0⟩ := trodAll_one hA
  obtain ⟨s0, n0, c0, rfl⟩ := okWide_slice Try.underlying22 (hval 0 22 v0 rfl rfl)
  obtain ⟨a0, hx0, ok0, hc0, hm0, hz0⟩ := open_row 4 un8 (fun n : Nat => n < 256) fits_n8 Try.underlying22 (show flatT Try.prog 4 5 = some [.int .u8] by kernel_rfl) (by kernel_rfl) (by decide) h0
  exact ⟨[.slf 1 a0.length (a0.flatMap un8)], (reps_cons (rep_row hx0 hc0 hm0 hz0 (fun _ => rfl)) reps_nil), scans_d a0 ok0⟩
theorem jscans_holds : Rows.JournalScansSaid :=
  OpenClaim.holds_of_wide 3 Try.f3 rfl rfl rfl rfl rfl rfl rfl ⟨rfl, rfl, rfl, rfl, rfl⟩ rfl rfl rfl rfl rfl (by kernel_rfl) Try.func3 (by kernel_rfl)
    (of_decide_eq_true (by kernel_rfl)) (by unfold Func.isWrapper; rw [if_neg (of_decide_eq_false (by kernel_rfl))]; exact ⟨rfl, rfl⟩)
    (fun os started H enc _ => lift_law (s := Rows.journalScansSpec) (conds := Rows.journalScansRow.domain) started (by kernel_rfl) Try.func3
      (ChangeSpec.witness6 (enc := enc) (C := Try.checked) false ⟨#[], #[.slice none 0 0], []⟩ 8 (by kernel_rfl) (by kernel_rfl) (by kernel_rfl) (by kernel_rfl))
      [22] 4 (by rw [Try.params3]) (by kernel_rfl) Try.underlying4 (by kernel_rfl) rfl
      (fun ds h => by match ds, h with | [d0], _ => rfl) jscans_walked)

end Go.Proofs.Ytfdmfklofgmpfaa
