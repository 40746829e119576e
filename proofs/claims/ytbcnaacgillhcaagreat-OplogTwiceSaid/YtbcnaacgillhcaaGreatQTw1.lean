/- The law OplogTwice of layer 14 holds: for every log, and two times the program answers true, and does not panic. No other condition. -/
import Derived.Test.YtbcnaacgillhcaaGreatQ5
import Derived.Test.YtbcnaacgillhcaaGreatRows
namespace Go.Proofs.YtbcnaacgillhcaaGreat
set_option linter.unusedVariables false
set_option linter.unusedSimpArgs false
open Go.RowKit
open Go.ChangeShapes Go.WideShapes Go.ChangeAt Go.Joins Go.Deep
set_option maxRecDepth 20000
theorem otwice_into : (Rows.oplogTwiceRow.inPlace == Tryz.pinned.checked.prog.inPlace 3) = true := by kernel_rfl
theorem otwice_unf : (Rows.oplogTwiceRow.unfollowed == Tryz.pinned.checked.prog.unfollowed 3) = true := by kernel_rfl
theorem otwice_rec : (Rows.oplogTwiceRow.recurses == Tryz.pinned.checked.prog.recurses 3) = true := by kernel_rfl
theorem otwice_nmd : (Rows.oplogTwiceRow.named == Tryz.pinned.checked.prog.varsNamed 3) = true := by kernel_rfl
theorem otwice_fnm : Tryz.pinned.checked.prog.funcNamed Rows.oplogTwiceRow.func = some 3 := by kernel_rfl
theorem otwice_closed : joinedFacts Tryz.pinned.checked.prog 3 Tryz.f3 Rows.oplogTwiceSpec Rows.oplogTwiceRow = true := by
  unfold joinedFacts
  rw [otwice_into, otwice_unf, otwice_rec, otwice_nmd]
  kernel_rfl
theorem otwice_walked : Walked 3 [27, 22, 22] := walked_of fun H enc W base args ds p hA hval => by
  obtain ⟨v0, v1, v2, d0, d1, d2, p0, p1, p2, rfl, rfl, rfl, h0, h1, h2⟩ := trodAll_three hA
  obtain ⟨a0, ok0, r0⟩ := open_agg (mk := logD) (ok := fun _ => True) Tryz.underlying27 (opens_log) (hval 0 27 v0 rfl rfl) h0
  obtain ⟨u1, hu1⟩ := okWide_int Tryz.underlying22 (hval 1 22 v1 rfl rfl)
  obtain ⟨a1, ok1, rfl⟩ := open_prim (.int .u64) (fun n : Int => 0 ≤ n ∧ n ≤ 18446744073709551615) (fun v h => fits_prim_u64 h) (show flatT Tryz.prog 1 22 = some [.int .u64] by kernel_rfl) ⟨_, hu1, rfl⟩ h1
  obtain ⟨u2, hu2⟩ := okWide_int Tryz.underlying22 (hval 2 22 v2 rfl rfl)
  obtain ⟨a2, ok2, rfl⟩ := open_prim (.int .u64) (fun n : Int => 0 ≤ n ∧ n ≤ 18446744073709551615) (fun v h => fits_prim_u64 h) (show flatT Tryz.prog 1 22 = some [.int .u64] by kernel_rfl) ⟨_, hu2, rfl⟩ h2
  exact ⟨[.agg ((logD) a0), .val (.int .u64 a1), .val (.int .u64 a2)], (reps_cons r0 (reps_cons (.val _) (reps_cons (.val _) reps_nil))), twice_z a0 ok1.1 ok2.1⟩
theorem otwice_holds : Rows.OplogTwiceSaid :=
  OpenClaim.holds_of_wide 3 Tryz.f3 rfl rfl rfl rfl rfl rfl rfl ⟨rfl, rfl, rfl, rfl, rfl⟩ rfl rfl rfl rfl rfl otwice_fnm Tryz.func3 otwice_closed
    (of_decide_eq_true (by kernel_rfl)) (by unfold Func.isWrapper; rw [if_neg (of_decide_eq_false (by kernel_rfl))]; exact ⟨rfl, rfl⟩)
    (fun os started H enc _ => lift_law (s := Rows.oplogTwiceSpec) (conds := Rows.oplogTwiceRow.domain) started (by kernel_rfl) Tryz.func3
      (ChangeSpec.witness6 (enc := enc) (C := Tryz.checked) false ⟨#[], #[.agg #[.int .u64 0, .int .u64 0, .int .u64 0, .int .u64 0, .int .u64 0, .int .u64 0, .int .u64 0, .int .u64 0, .int .u64 0, .int .u64 0, .slice none 0 0], .int .u64 0, .int .u64 0], []⟩ 8 (by kernel_rfl) (by kernel_rfl) (by kernel_rfl) (by kernel_rfl))
      [27, 22, 22] 4 (by rw [Tryz.params3]) (by kernel_rfl) Tryz.underlying4 (by kernel_rfl) rfl
      (fun ds h => by match ds, h with | [d0, d1, d2], _ => rfl) otwice_walked)
end Go.Proofs.YtbcnaacgillhcaaGreat
