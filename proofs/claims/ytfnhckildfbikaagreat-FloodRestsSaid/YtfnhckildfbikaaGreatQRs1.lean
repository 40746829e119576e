/- The law FloodRests of layer 8 holds: for every canvas, place with a tolerance, and colour the program answers true, and does not panic. No other condition. -/
import Derived.Test.YtfnhckildfbikaaGreatQRs1x1
import Derived.Test.YtfnhckildfbikaaGreatRows
namespace Go.Proofs.YtfnhckildfbikaaGreat
set_option maxRecDepth 4000
set_option linter.unusedVariables false
set_option linter.unusedSimpArgs false
open Go.RowKit
open Go.ChangeShapes Go.WideShapes Go.ChangeAt Go.Joins Go.Deep
set_option maxRecDepth 20000
theorem rests_into : (Rows.floodRestsRow.inPlace == Tryz.pinned.checked.prog.inPlace 4) = true := by kernel_rfl
theorem rests_unf : (Rows.floodRestsRow.unfollowed == Tryz.pinned.checked.prog.unfollowed 4) = true := by kernel_rfl
theorem rests_rec : (Rows.floodRestsRow.recurses == Tryz.pinned.checked.prog.recurses 4) = true := by kernel_rfl
theorem rests_nmd : (Rows.floodRestsRow.named == Tryz.pinned.checked.prog.varsNamed 4) = true := by kernel_rfl
theorem rests_fnm : Tryz.pinned.checked.prog.funcNamed Rows.floodRestsRow.func = some 4 := by kernel_rfl
theorem rests_closed : joinedFacts Tryz.pinned.checked.prog 4 Tryz.f4 Rows.floodRestsSpec Rows.floodRestsRow = true := by
  unfold joinedFacts
  rw [rests_into, rests_unf, rests_rec, rests_nmd]
  kernel_rfl
theorem rests_walked : Walked 4 [24, 52, 44] := walked_of fun H enc W base args ds p hA hval => by
  obtain ⟨v0, v1, v2, d0, d1, d2, p0, p1, p2, rfl, rfl, rfl, h0, h1, h2⟩ := trodAll_three hA
  obtain ⟨a0, ok0, r0⟩ := open_agg (mk := shL) (ok := fun a => tsRng a.2.2) Tryz.underlying24 (opens_cv) (hval 0 24 v0 rfl rfl) h0
  obtain ⟨a1, ok1, rfl⟩ := open_arrayT 4 Go.Proofs.YtfnhckildfbikaaGreat.q3 (fun a : Int × Int × Int => (-9223372036854775808 ≤ a.1 ∧ a.1 ≤ 9223372036854775807) ∧ (-9223372036854775808 ≤ a.2.1 ∧ a.2.1 ≤ 9223372036854775807) ∧ -9223372036854775808 ≤ a.2.2 ∧ a.2.2 ≤ 9223372036854775807) fits_q3 Tryz.underlying52 (show flatT Tryz.prog 4 52 = some [.int .i64, .int .i64, .int .i64] by kernel_rfl) (hval 1 52 v1 rfl rfl) h1
  obtain ⟨a2, ok2, rfl⟩ := open_struct 4 c4 (C4.rng) fits_c4 Tryz.underlying44 (show flatT Tryz.prog 4 44 = some [.int .u8, .int .u8, .int .u8, .int .u8] by kernel_rfl) (hval 2 44 v2 rfl rfl) h2
  exact ⟨[.agg ((shL) a0), .val (.agg (Go.Proofs.YtfnhckildfbikaaGreat.q3 a1).toArray), .val (.agg (c4 a2).toArray)], (reps_cons r0 (reps_cons (.val _) (reps_cons (.val _) reps_nil))), rests_d a0.1 a0.2.1 a0.2.2 ok0 ⟨a1.1, a1.2.1⟩ a1.2.2 a2 ok2⟩
theorem rests_holds : Rows.FloodRestsSaid :=
  OpenClaim.holds_of_wide 4 Tryz.f4 rfl rfl rfl rfl rfl rfl rfl ⟨rfl, rfl, rfl, rfl, rfl⟩ rfl rfl rfl rfl rfl rests_fnm Tryz.func4 rests_closed
    (of_decide_eq_true (by kernel_rfl)) (by unfold Func.isWrapper; rw [if_neg (of_decide_eq_false (by kernel_rfl))]; exact ⟨rfl, rfl⟩)
    (fun os started H enc _ => lift_law (s := Rows.floodRestsSpec) (conds := Rows.floodRestsRow.domain) started (by kernel_rfl) Tryz.func4
      (ChangeSpec.witness6 (enc := enc) (C := Tryz.checked) false ⟨#[], #[.agg #[.int .i64 0, .int .i64 0, .slice none 0 0], .agg #[.int .i64 0, .int .i64 0, .int .i64 0], .agg #[.int .u8 0, .int .u8 0, .int .u8 0, .int .u8 0]], []⟩ 8 (by kernel_rfl) (by kernel_rfl) (by kernel_rfl) (by kernel_rfl))
      [24, 52, 44] 4 (by rw [Tryz.params4]) (by kernel_rfl) Tryz.underlying4 (by kernel_rfl) rfl
      (fun ds h => by match ds, h with | [d0, d1, d2], _ => rfl) rests_walked)
end Go.Proofs.YtfnhckildfbikaaGreat
