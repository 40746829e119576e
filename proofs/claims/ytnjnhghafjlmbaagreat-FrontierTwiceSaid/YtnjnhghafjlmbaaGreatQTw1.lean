/- The law FrontierTwice of layer 18 holds: for every frontier, site, and row of pledges the program answers true, and does not panic. No other condition. -/
import Derived.Test.YtnjnhghafjlmbaaGreatQTw1x1
import Derived.Test.YtnjnhghafjlmbaaGreatRows
import Derived.Test.YtnjnhghafjlmbaaGreatProg
import Derived.OpenShut
import Derived.ChangeArms
import Derived.DataReads
import Derived.Below
import Derived.Deep.Slices
import Derived.JoinedOf
import Derived.JoinedAt
import Derived.Lib.SmallJoins
import Derived.Carry
import Derived.ProofKit
import Derived.RowKit3
import Derived.WalkKit
import Derived.Laws.AppendOwn
import Derived.RangeFuncRecord
import Derived.RangeFuncLeaves
import Derived.OrdersIn
import Derived.Deep.MidRow
import Derived.Laws.MakeOwn
import Derived.IntWalk
import Derived.Laws.OwnMore
import Derived.OwnWalk
import Derived.Recover
import Derived.RangeFuncIn
import Derived.Laws.StructEq
import Derived.LaidMore
import Derived.Handed
import Derived.LaidHandle
import Derived.Stop.Joined
import Derived.Laws.IdiomCopy
import Derived.Laws.Pointers
import Derived.Laws.LoneSync
namespace Go.Proofs.YtnjnhghafjlmbaaGreat
set_option linter.unusedVariables false
set_option linter.unusedSimpArgs false
open Go.RowKit
open Go.ChangeShapes Go.WideShapes Go.ChangeAt Go.Joins Go.Deep
set_option maxRecDepth 20000
theorem ftwice_into : (Rows.frontierTwiceRow.inPlace == Tryz.pinned.checked.prog.inPlace 7) = true := by kernel_rfl
theorem ftwice_unf : (Rows.frontierTwiceRow.unfollowed == Tryz.pinned.checked.prog.unfollowed 7) = true := by kernel_rfl
theorem ftwice_rec : (Rows.frontierTwiceRow.recurses == Tryz.pinned.checked.prog.recurses 7) = true := by kernel_rfl
theorem ftwice_nmd : (Rows.frontierTwiceRow.named == Tryz.pinned.checked.prog.varsNamed 7) = true := by kernel_rfl
theorem ftwice_fnm : Tryz.pinned.checked.prog.funcNamed Rows.frontierTwiceRow.func = some 7 := by kernel_rfl
theorem ftwice_closed : joinedFacts Tryz.pinned.checked.prog 7 Tryz.f7 Rows.frontierTwiceSpec Rows.frontierTwiceRow = true := by
  unfold joinedFacts
  rw [ftwice_into, ftwice_unf, ftwice_rec, ftwice_nmd]
  kernel_rfl
theorem ftwice_walked : Walked 7 [29, 3, 52] := walked_of fun H enc W base args ds p hA hval => by
  obtain ⟨v0, v1, v2, d0, d1, d2, p0, p1, p2, rfl, rfl, rfl, h0, h1, h2⟩ := trodAll_three hA
  obtain ⟨a0, ok0, rfl⟩ := open_struct 6 frC (fun _ => True) fits_fr Tryz.underlying29 (show flatT Tryz.prog 6 29 = some kF by kernel_rfl) (hval 0 29 v0 rfl rfl) h0
  obtain ⟨u1, hu1⟩ := okWide_int Tryz.underlying3 (hval 1 3 v1 rfl rfl)
  obtain ⟨a1, ok1, rfl⟩ := open_prim (.int .i64) (fun n : Int => -9223372036854775808 ≤ n ∧ n ≤ 9223372036854775807) (fun v h => fits_prim_i64 h) (show flatT Tryz.prog 1 3 = some [.int .i64] by kernel_rfl) ⟨_, hu1, rfl⟩ h1
  obtain ⟨s2, n2, c2, rfl⟩ := okWide_slice Tryz.underlying52 (hval 2 52 v2 rfl rfl)
  obtain ⟨a2, hx2, ok2, hc2, hm2, hz2⟩ := open_row 4 plC (fun _ => True) fits_pl Tryz.underlying52 (show flatT Tryz.prog 4 26 = some kP by kernel_rfl) (by kernel_rfl) (by decide) h2
  exact ⟨[.val (.agg (frC a0).toArray), .val (.int .i64 a1), .slf 12 a2.length (a2.flatMap plC)], (reps_cons (.val _) (reps_cons (.val _) (reps_cons (rep_row hx2 hc2 hm2 hz2 (fun _ => rfl)) reps_nil))), twice_d a0 a1 a2⟩
theorem ftwice_holds : Rows.FrontierTwiceSaid :=
  OpenClaim.holds_of_wide 7 Tryz.f7 rfl rfl rfl rfl rfl rfl rfl ⟨rfl, rfl, rfl, rfl, rfl⟩ rfl rfl rfl rfl rfl ftwice_fnm Tryz.func7 ftwice_closed
    (of_decide_eq_true (by kernel_rfl)) (by unfold Func.isWrapper; rw [if_neg (of_decide_eq_false (by kernel_rfl))]; exact ⟨rfl, rfl⟩)
    (fun os started H enc _ => lift_law (s := Rows.frontierTwiceSpec) (conds := Rows.frontierTwiceRow.domain) started (by kernel_rfl) Tryz.func7
      (ChangeSpec.witness6 (enc := enc) (C := Tryz.checked) false ⟨#[], #[.agg (frC zF).toArray, .int .i64 0, .slice none 0 0], []⟩ 8 (by kernel_rfl) (by kernel_rfl) (by kernel_rfl) (by kernel_rfl))
      [29, 3, 52] 4 (by rw [Tryz.params7]) (by kernel_rfl) Tryz.underlying4 (by kernel_rfl) rfl
      (fun ds h => by match ds, h with | [d0, d1, d2], _ => rfl) ftwice_walked)
end Go.Proofs.YtnjnhghafjlmbaaGreat
