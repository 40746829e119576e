/- The law FrontierMay of layer 18 holds: for every frontier, row of vectors, and row of sites the program answers true, and does not panic. No other condition. -/
import Derived.Test.YtnjnhghafjlmbaaGreatQMy1x1
import Derived.Test.YtnjnhghafjlmbaaGreatRows
import Derived.Test.YtnjnhghafjlmbaaGreatProg
import Derived.OpenShut
import Derived.ChangeArms
import Derived.DataReads
import Derived.Below
import Derived.Deep.Slices
import Derived.JoinedOf
import Derived.JoinedAt
import Derived.Lib.SmallJoins
import Derived.Carry
import Derived.ProofKit
import Derived.RowKit3
import Derived.WalkKit
import Derived.Laws.AppendOwn
import Derived.RangeFuncRecord
import Derived.RangeFuncLeaves
import Derived.OrdersIn
import Derived.Deep.MidRow
import Derived.Laws.MakeOwn
import Derived.IntWalk
import Derived.Laws.OwnMore
import Derived.OwnWalk
import Derived.Recover
import Derived.RangeFuncIn
import Derived.Laws.StructEq
import Derived.LaidMore
import Derived.Handed
import Derived.LaidHandle
import Derived.Stop.Joined
import Derived.Laws.IdiomCopy
import Derived.Laws.Pointers
import Derived.Laws.LoneSync
namespace Go.Proofs.YtnjnhghafjlmbaaGreat
set_option linter.unusedVariables false
set_option linter.unusedSimpArgs false
open Go.RowKit
open Go.ChangeShapes Go.WideShapes Go.ChangeAt Go.Joins Go.Deep
set_option maxRecDepth 20000
theorem fmay_into : (Rows.frontierMayRow.inPlace == Tryz.pinned.checked.prog.inPlace 3) = true := by kernel_rfl
theorem fmay_unf : (Rows.frontierMayRow.unfollowed == Tryz.pinned.checked.prog.unfollowed 3) = true := by kernel_rfl
theorem fmay_rec : (Rows.frontierMayRow.recurses == Tryz.pinned.checked.prog.recurses 3) = true := by kernel_rfl
theorem fmay_nmd : (Rows.frontierMayRow.named == Tryz.pinned.checked.prog.varsNamed 3) = true := by kernel_rfl
theorem fmay_fnm : Tryz.pinned.checked.prog.funcNamed Rows.frontierMayRow.func = some 3 := by kernel_rfl
theorem fmay_closed : joinedFacts Tryz.pinned.checked.prog 3 Tryz.f3 Rows.frontierMaySpec Rows.frontierMayRow = true := by
  unfold joinedFacts
  rw [fmay_into, fmay_unf, fmay_rec, fmay_nmd]
  kernel_rfl
theorem fmay_walked : Walked 3 [29, 30, 31] := walked_of fun H enc W base args ds p hA hval => by
  obtain ⟨v0, v1, v2, d0, d1, d2, p0, p1, p2, rfl, rfl, rfl, h0, h1, h2⟩ := trodAll_three hA
  obtain ⟨a0, ok0, rfl⟩ := open_struct 6 frC (fun _ => True) fits_fr Tryz.underlying29 (show flatT Tryz.prog 6 29 = some kF by kernel_rfl) (hval 0 29 v0 rfl rfl) h0
  obtain ⟨s1, n1, c1, rfl⟩ := okWide_slice Tryz.underlying30 (hval 1 30 v1 rfl rfl)
  obtain ⟨a1, hx1, ok1, hc1, hm1, hz1⟩ := open_row 4 c9 (fun _ => True) fits_c9 Tryz.underlying30 (show flatT Tryz.prog 4 24 = some k9 by kernel_rfl) (by kernel_rfl) (by decide) h1
  obtain ⟨s2, n2, c2, rfl⟩ := okWide_slice Tryz.underlying31 (hval 2 31 v2 rfl rfl)
  obtain ⟨a2, hx2, ok2, hc2, hm2, hz2⟩ := open_row 4 inI (fun a : Int => -9223372036854775808 ≤ a ∧ a ≤ 9223372036854775807) fits_i64 Tryz.underlying31 (show flatT Tryz.prog 4 3 = some [.int .i64] by kernel_rfl) (by kernel_rfl) (by decide) h2
  exact ⟨[.val (.agg (frC a0).toArray), .slf 9 a1.length (a1.flatMap c9), .slf 1 a2.length (a2.flatMap inI)], (reps_cons (.val _) (reps_cons (rep_row hx1 hc1 hm1 hz1 (fun _ => rfl)) (reps_cons (rep_row hx2 hc2 hm2 hz2 (fun _ => rfl)) reps_nil))), may_d a0 a1 a2⟩
theorem fmay_holds : Rows.FrontierMaySaid :=
  OpenClaim.holds_of_wide 3 Tryz.f3 rfl rfl rfl rfl rfl rfl rfl ⟨rfl, rfl, rfl, rfl, rfl⟩ rfl rfl rfl rfl rfl fmay_fnm Tryz.func3 fmay_closed
    (of_decide_eq_true (by kernel_rfl)) (by unfold Func.isWrapper; rw [if_neg (of_decide_eq_false (by kernel_rfl))]; exact ⟨rfl, rfl⟩)
    (fun os started H enc _ => lift_law (s := Rows.frontierMaySpec) (conds := Rows.frontierMayRow.domain) started (by kernel_rfl) Tryz.func3
      (ChangeSpec.witness6 (enc := enc) (C := Tryz.checked) false ⟨#[], #[.agg (frC zF).toArray, .slice none 0 0, .slice none 0 0], []⟩ 8 (by kernel_rfl) (by kernel_rfl) (by kernel_rfl) (by kernel_rfl))
      [29, 30, 31] 4 (by rw [Tryz.params3]) (by kernel_rfl) Tryz.underlying4 (by kernel_rfl) rfl
      (fun ds h => by match ds, h with | [d0, d1, d2], _ => rfl) fmay_walked)
end Go.Proofs.YtnjnhghafjlmbaaGreat
