/- The law FrontierProposes of layer 18 holds: for every frontier, log, and row of numbers the program answers true, and does not panic. No other condition. -/
import Derived.Test.YtnjnhghafjlmbaaGreatQPr1x2
import Derived.Test.YtnjnhghafjlmbaaGreatRows
namespace Go.Proofs.YtnjnhghafjlmbaaGreat
set_option linter.unusedVariables false
set_option linter.unusedSimpArgs false
open Go.RowKit
open Go.ChangeShapes Go.WideShapes Go.ChangeAt Go.Joins Go.Deep
set_option maxRecDepth 20000
theorem fproposes_into : (Rows.frontierProposesRow.inPlace == Tryz.pinned.checked.prog.inPlace 5) = true := by kernel_rfl
theorem fproposes_unf : (Rows.frontierProposesRow.unfollowed == Tryz.pinned.checked.prog.unfollowed 5) = true := by kernel_rfl
theorem fproposes_rec : (Rows.frontierProposesRow.recurses == Tryz.pinned.checked.prog.recurses 5) = true := by kernel_rfl
theorem fproposes_nmd : (Rows.frontierProposesRow.named == Tryz.pinned.checked.prog.varsNamed 5) = true := by kernel_rfl
theorem fproposes_fnm : Tryz.pinned.checked.prog.funcNamed Rows.frontierProposesRow.func = some 5 := by kernel_rfl
theorem fproposes_closed : joinedFacts Tryz.pinned.checked.prog 5 Tryz.f5 Rows.frontierProposesSpec Rows.frontierProposesRow = true := by
  unfold joinedFacts
  rw [fproposes_into, fproposes_unf, fproposes_rec, fproposes_nmd]
  kernel_rfl
theorem fproposes_walked : Walked 5 [29, 58, 31] := walked_of fun H enc W base args ds p hA hval => by
  obtain ⟨v0, v1, v2, d0, d1, d2, p0, p1, p2, rfl, rfl, rfl, h0, h1, h2⟩ := trodAll_three hA
  obtain ⟨a0, ok0, rfl⟩ := open_struct 6 frC (fun _ => True) fits_fr Tryz.underlying29 (show flatT Tryz.prog 6 29 = some kF by kernel_rfl) (hval 0 29 v0 rfl rfl) h0
  obtain ⟨a1, ok1, r1⟩ := open_agg (mk := logD) (ok := fun _ => True) Tryz.underlying58 (opens_log) (hval 1 58 v1 rfl rfl) h1
  obtain ⟨s2, n2, c2, rfl⟩ := okWide_slice Tryz.underlying31 (hval 2 31 v2 rfl rfl)
  obtain ⟨a2, hx2, ok2, hc2, hm2, hz2⟩ := open_row 4 inI (fun a : Int => -9223372036854775808 ≤ a ∧ a ≤ 9223372036854775807) fits_i64 Tryz.underlying31 (show flatT Tryz.prog 4 3 = some [.int .i64] by kernel_rfl) (by kernel_rfl) (by decide) h2
  exact ⟨[.val (.agg (frC a0).toArray), .agg ((logD) a1), .slf 1 a2.length (a2.flatMap inI)], (reps_cons (.val _) (reps_cons r1 (reps_cons (rep_row hx2 hc2 hm2 hz2 (fun _ => rfl)) reps_nil))), proposes_d a0 a1 a2⟩
theorem fproposes_holds : Rows.FrontierProposesSaid :=
  OpenClaim.holds_of_wide 5 Tryz.f5 rfl rfl rfl rfl rfl rfl rfl ⟨rfl, rfl, rfl, rfl, rfl⟩ rfl rfl rfl rfl rfl fproposes_fnm Tryz.func5 fproposes_closed
    (of_decide_eq_true (by kernel_rfl)) (by unfold Func.isWrapper; rw [if_neg (of_decide_eq_false (by kernel_rfl))]; exact ⟨rfl, rfl⟩)
    (fun os started H enc _ => lift_law (s := Rows.frontierProposesSpec) (conds := Rows.frontierProposesRow.domain) started (by kernel_rfl) Tryz.func5
      (ChangeSpec.witness6 (enc := enc) (C := Tryz.checked) false ⟨#[], #[.agg (frC zF).toArray, .agg #[.int .u64 0, .int .u64 0, .int .u64 0, .int .u64 0, .int .u64 0, .int .u64 0, .int .u64 0, .int .u64 0, .int .u64 0, .int .u64 0, .slice none 0 0], .slice none 0 0], []⟩ 8 (by kernel_rfl) (by kernel_rfl) (by kernel_rfl) (by kernel_rfl))
      [29, 58, 31] 4 (by rw [Tryz.params5]) (by kernel_rfl) Tryz.underlying4 (by kernel_rfl) rfl
      (fun ds h => by match ds, h with | [d0, d1, d2], _ => rfl) fproposes_walked)
end Go.Proofs.YtnjnhghafjlmbaaGreat
