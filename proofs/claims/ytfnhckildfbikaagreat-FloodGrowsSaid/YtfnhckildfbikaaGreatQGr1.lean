/- The law FloodGrows of layer 8 holds: for every canvas, place, and pair of tolerances the program answers true, and does not panic. No other condition. -/
import Derived.Test.YtfnhckildfbikaaGreatQGr1x1
import Derived.Test.YtfnhckildfbikaaGreatRows
namespace Go.Proofs.YtfnhckildfbikaaGreat
set_option maxRecDepth 4000
set_option linter.unusedVariables false
set_option linter.unusedSimpArgs false
open Go.RowKit
open Go.ChangeShapes Go.WideShapes Go.ChangeAt Go.Joins Go.Deep
set_option maxRecDepth 20000
theorem grows_into : (Rows.floodGrowsRow.inPlace == Tryz.pinned.checked.prog.inPlace 3) = true := by kernel_rfl
theorem grows_unf : (Rows.floodGrowsRow.unfollowed == Tryz.pinned.checked.prog.unfollowed 3) = true := by kernel_rfl
theorem grows_rec : (Rows.floodGrowsRow.recurses == Tryz.pinned.checked.prog.recurses 3) = true := by kernel_rfl
theorem grows_nmd : (Rows.floodGrowsRow.named == Tryz.pinned.checked.prog.varsNamed 3) = true := by kernel_rfl
theorem grows_fnm : Tryz.pinned.checked.prog.funcNamed Rows.floodGrowsRow.func = some 3 := by kernel_rfl
theorem grows_closed : joinedFacts Tryz.pinned.checked.prog 3 Tryz.f3 Rows.floodGrowsSpec Rows.floodGrowsRow = true := by
  unfold joinedFacts
  rw [grows_into, grows_unf, grows_rec, grows_nmd]
  kernel_rfl
theorem grows_walked : Walked 3 [24, 26, 27] := walked_of fun H enc W base args ds p hA hval => by
  obtain ⟨v0, v1, v2, d0, d1, d2, p0, p1, p2, rfl, rfl, rfl, h0, h1, h2⟩ := trodAll_three hA
  obtain ⟨a0, ok0, r0⟩ := open_agg (mk := shL) (ok := fun a => tsRng a.2.2) Tryz.underlying24 (opens_cv) (hval 0 24 v0 rfl rfl) h0
  obtain ⟨a1, ok1, rfl⟩ := open_struct 4 Go.Proofs.YtfnhckildfbikaaGreat.p2 (Go.Proofs.YtfnhckildfbikaaGreat.P2.rng) fits_p2 Tryz.underlying26 (show flatT Tryz.prog 4 26 = some [.int .i64, .int .i64] by kernel_rfl) (hval 1 26 v1 rfl rfl) h1
  obtain ⟨a2, ok2, rfl⟩ := open_arrayT 4 Go.Proofs.YtfnhckildfbikaaGreat.p2 (Go.Proofs.YtfnhckildfbikaaGreat.P2.rng) fits_p2 Tryz.underlying27 (show flatT Tryz.prog 4 27 = some [.int .i64, .int .i64] by kernel_rfl) (hval 2 27 v2 rfl rfl) h2
  exact ⟨[.agg ((shL) a0), .val (.agg (Go.Proofs.YtfnhckildfbikaaGreat.p2 a1).toArray), .val (.agg (Go.Proofs.YtfnhckildfbikaaGreat.p2 a2).toArray)], (reps_cons r0 (reps_cons (.val _) (reps_cons (.val _) reps_nil))), grows_d a0.1 a0.2.1 a0.2.2 ok0 a1 a2.x a2.y⟩
theorem grows_holds : Rows.FloodGrowsSaid :=
  OpenClaim.holds_of_wide 3 Tryz.f3 rfl rfl rfl rfl rfl rfl rfl ⟨rfl, rfl, rfl, rfl, rfl⟩ rfl rfl rfl rfl rfl grows_fnm Tryz.func3 grows_closed
    (of_decide_eq_true (by kernel_rfl)) (by unfold Func.isWrapper; rw [if_neg (of_decide_eq_false (by kernel_rfl))]; exact ⟨rfl, rfl⟩)
    (fun os started H enc _ => lift_law (s := Rows.floodGrowsSpec) (conds := Rows.floodGrowsRow.domain) started (by kernel_rfl) Tryz.func3
      (ChangeSpec.witness6 (enc := enc) (C := Tryz.checked) false ⟨#[], #[.agg #[.int .i64 0, .int .i64 0, .slice none 0 0], .agg #[.int .i64 0, .int .i64 0], .agg #[.int .i64 0, .int .i64 0]], []⟩ 8 (by kernel_rfl) (by kernel_rfl) (by kernel_rfl) (by kernel_rfl))
      [24, 26, 27] 4 (by rw [Tryz.params3]) (by kernel_rfl) Tryz.underlying4 (by kernel_rfl) rfl
      (fun ds h => by match ds, h with | [d0, d1, d2], _ => rfl) grows_walked)
end Go.Proofs.YtfnhckildfbikaaGreat
