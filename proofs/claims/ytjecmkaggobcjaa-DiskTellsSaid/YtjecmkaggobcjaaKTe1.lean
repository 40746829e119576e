/- The law DiskTells of layer 22 holds: for every two disks, and row of numbers the program answers true, and does not panic. No other condition. -/
import Derived.Test.YtjecmkaggobcjaaK7
import Derived.Test.YtjecmkaggobcjaaRows
namespace Go.Proofs.Ytjecmkaggobcjaa
set_option linter.unusedVariables false
set_option linter.unusedSimpArgs false
open Go.RowKit
open Go.ChangeShapes Go.WideShapes Go.ChangeAt Go.Joins Go.Deep
set_option maxRecDepth 20000 in
theorem dtells_walked : Walked2 3 [26, 26, 27] := walked_of2 fun H enc W base args ds p hA hval hsz => by
  obtain ⟨v0, v1, v2, d0, d1, d2, p0, p1, p2, rfl, rfl, rfl, h0, h1, h2⟩ := trodAll_three hA
  obtain ⟨a0, ok0, r0⟩ := open_agg (mk := dskD) (ok := okD) Try.underlying26 (opens_disk) (hval 0 26 v0 rfl rfl) h0
  obtain ⟨a1, ok1, r1⟩ := open_agg (mk := dskD) (ok := okD) Try.underlying26 (opens_disk) (hval 1 26 v1 rfl rfl) h1
  obtain ⟨s2, n2, c2, rfl⟩ := okWide_slice Try.underlying27 (hval 2 27 v2 rfl rfl)
  obtain ⟨a2, hx2, ok2, hc2, hm2, hz2⟩ := open_row 4 inI (fun a : Int => -9223372036854775808 ≤ a ∧ a ≤ 9223372036854775807) fits_i64 Try.underlying27 (show flatT Try.prog 4 3 = some [.int .i64] by kernel_rfl) (by kernel_rfl) (by decide) h2
  have hbe2 : Try.prog.bytesOf 3 = 8 := by kernel_rfl
  have hb2 := row_sized 2 hsz rfl rfl Try.underlying27 h2
  rw [hbe2, rowV_len hx2] at hb2
  exact ⟨[.agg ((dskD) a0), .agg ((dskD) a1), .slf 1 a2.length (a2.flatMap inI)], (reps_cons r0 (reps_cons r1 (reps_cons (rep_row hx2 hc2 hm2 hz2 (fun _ => rfl)) reps_nil))), tells_d a0.1 a0.2.1 a0.2.2.1 a0.2.2.2.1 a0.2.2.2.2 ok0.1 ok0.2 a1.1 a1.2.1 a1.2.2.1 a1.2.2.2.1 a1.2.2.2.2 ok1.1 ok1.2 a2 hb2⟩
theorem dtells_holds : Rows.DiskTellsSaid :=
  OpenClaim.holds_of_wide 3 Try.f3 rfl rfl rfl rfl rfl rfl rfl ⟨rfl, rfl, rfl, rfl, rfl⟩ rfl rfl rfl rfl rfl (by kernel_rfl) Try.func3 (by kernel_rfl)
    (of_decide_eq_true (by kernel_rfl)) (by unfold Func.isWrapper; rw [if_neg (of_decide_eq_false (by kernel_rfl))]; exact ⟨rfl, rfl⟩)
    (fun os started H enc _ => lift_law2 (s := Rows.diskTellsSpec) (conds := Rows.diskTellsRow.domain) started (by kernel_rfl) Try.func3
      (ChangeSpec.witness6 (enc := enc) (C := Try.checked) false ⟨#[], #[.agg #[.slice none 0 0, .slice none 0 0, .slice none 0 0, .slice none 0 0, .int .i64 0, .slice none 0 0, .bool false, .int .i64 0], .agg #[.slice none 0 0, .slice none 0 0, .slice none 0 0, .slice none 0 0, .int .i64 0, .slice none 0 0, .bool false, .int .i64 0], .slice none 0 0], []⟩ 8 (by kernel_rfl) (by kernel_rfl) (by kernel_rfl) (by kernel_rfl))
      [26, 26, 27] 4 (by rw [Try.params3]) (by kernel_rfl) Try.underlying4 (by kernel_rfl) rfl
      (fun ds h => by match ds, h with | [d0, d1, d2], _ => rfl) dtells_walked)
end Go.Proofs.Ytjecmkaggobcjaa
