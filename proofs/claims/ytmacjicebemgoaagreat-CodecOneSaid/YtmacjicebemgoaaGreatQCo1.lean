/- The law CodecOne of layer 19 holds: for every row of bytes the program answers true, and does not panic. No other condition. -/
import Derived.Test.YtmacjicebemgoaaGreatQCo1x1
import Derived.Test.YtmacjicebemgoaaGreatRows
namespace Go.Proofs.YtmacjicebemgoaaGreat
set_option linter.unusedVariables false
set_option linter.unusedSimpArgs false
open Go.RowKit
open Go.ChangeShapes Go.WideShapes Go.ChangeAt Go.Joins Go.Deep
set_option maxRecDepth 20000
theorem cone_into : (Rows.codecOneRow.inPlace == Tryz.pinned.checked.prog.inPlace 5) = true := by kernel_rfl
theorem cone_unf : (Rows.codecOneRow.unfollowed == Tryz.pinned.checked.prog.unfollowed 5) = true := by kernel_rfl
theorem cone_rec : (Rows.codecOneRow.recurses == Tryz.pinned.checked.prog.recurses 5) = true := by kernel_rfl
theorem cone_nmd : (Rows.codecOneRow.named == Tryz.pinned.checked.prog.varsNamed 5) = true := by kernel_rfl
theorem cone_fnm : Tryz.pinned.checked.prog.funcNamed Rows.codecOneRow.func = some 5 := by kernel_rfl
theorem cone_closed : joinedFacts Tryz.pinned.checked.prog 5 Tryz.f5 Rows.codecOneSpec Rows.codecOneRow = true := by
  unfold joinedFacts
  rw [cone_into, cone_unf, cone_rec, cone_nmd]
  kernel_rfl
theorem cone_walked : Walked 5 [30] := walked_of fun H enc W base args ds p hA hval => by
  obtain ⟨v0, d0, rfl, rfl, h0⟩ := trodAll_one hA
  obtain ⟨s0, n0, c0, rfl⟩ := okWide_slice Tryz.underlying30 (hval 0 30 v0 rfl rfl)
  obtain ⟨a0, hx0, ok0, hc0, hm0, hz0⟩ := open_row 4 uc8 (fun n : Int => 0 ≤ n ∧ n ≤ 255) fits_u8 Tryz.underlying30 (show flatT Tryz.prog 4 5 = some [.int .u8] by kernel_rfl) (by kernel_rfl) (by decide) h0
  exact ⟨[.slf 1 a0.length (a0.flatMap uc8)], (reps_cons (rep_row hx0 hc0 hm0 hz0 (fun _ => rfl)) reps_nil), one_d a0 ok0⟩
theorem cone_holds : Rows.CodecOneSaid :=
  OpenClaim.holds_of_wide 5 Tryz.f5 rfl rfl rfl rfl rfl rfl rfl ⟨rfl, rfl, rfl, rfl, rfl⟩ rfl rfl rfl rfl rfl cone_fnm Tryz.func5 cone_closed
    (of_decide_eq_true (by kernel_rfl)) (by unfold Func.isWrapper; rw [if_neg (of_decide_eq_false (by kernel_rfl))]; exact ⟨rfl, rfl⟩)
    (fun os started H enc _ => lift_law (s := Rows.codecOneSpec) (conds := Rows.codecOneRow.domain) started (by kernel_rfl) Tryz.func5
      (ChangeSpec.witness6 (enc := enc) (C := Tryz.checked) false ⟨#[], #[.slice none 0 0], []⟩ 8 (by kernel_rfl) (by kernel_rfl) (by kernel_rfl) (by kernel_rfl))
      [30] 4 (by rw [Tryz.params5]) (by kernel_rfl) Tryz.underlying4 (by kernel_rfl) rfl
      (fun ds h => by match ds, h with | [d0], _ => rfl) cone_walked)
end Go.Proofs.YtmacjicebemgoaaGreat
