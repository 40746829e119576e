/- The law FrontierRises of layer 18 holds: for every frontier, vector, and row of sites the program answers true, and does not panic. No other condition. -/
import Derived.Test.YtnjnhghafjlmbaaGreatQRi1x1
import Derived.Test.YtnjnhghafjlmbaaGreatRows
import Derived.Test.YtnjnhghafjlmbaaGreatProg
import Derived.OpenShut
import Derived.ChangeArms
import Derived.DataReads
import Derived.Below
import Derived.Deep.Slices
import Derived.JoinedOf
import Derived.JoinedAt
import Derived.Lib.SmallJoins
import Derived.Carry
import Derived.ProofKit
import Derived.RowKit3
import Derived.WalkKit
import Derived.Laws.AppendOwn
import Derived.RangeFuncRecord
import Derived.RangeFuncLeaves
import Derived.OrdersIn
import Derived.Deep.MidRow
import Derived.Laws.MakeOwn
import Derived.IntWalk
import Derived.Laws.OwnMore
import Derived.OwnWalk
import Derived.Recover
import Derived.RangeFuncIn
import Derived.Laws.StructEq
import Derived.LaidMore
import Derived.Handed
import Derived.LaidHandle
import Derived.Stop.Joined
import Derived.Laws.IdiomCopy
import Derived.Laws.Pointers
import Derived.Laws.LoneSync
namespace Go.Proofs.YtnjnhghafjlmbaaGreat
set_option linter.unusedVariables false
set_option linter.unusedSimpArgs false
open Go.RowKit
open Go.ChangeShapes Go.WideShapes Go.ChangeAt Go.Joins Go.Deep
set_option maxRecDepth 20000
theorem frises_into : (Rows.frontierRisesRow.inPlace == Tryz.pinned.checked.prog.inPlace 8) = true := by kernel_rfl
theorem frises_unf : (Rows.frontierRisesRow.unfollowed == Tryz.pinned.checked.prog.unfollowed 8) = true := by kernel_rfl
theorem frises_rec : (Rows.frontierRisesRow.recurses == Tryz.pinned.checked.prog.recurses 8) = true := by kernel_rfl
theorem frises_nmd : (Rows.frontierRisesRow.named == Tryz.pinned.checked.prog.varsNamed 8) = true := by kernel_rfl
theorem frises_fnm : Tryz.pinned.checked.prog.funcNamed Rows.frontierRisesRow.func = some 8 := by kernel_rfl
theorem frises_closed : joinedFacts Tryz.pinned.checked.prog 8 Tryz.f8 Rows.frontierRisesSpec Rows.frontierRisesRow = true := by
  unfold joinedFacts
  rw [frises_into, frises_unf, frises_rec, frises_nmd]
  kernel_rfl
theorem frises_walked : Walked 8 [29, 24, 31] := walked_of fun H enc W base args ds p hA hval => by
  obtain ⟨v0, v1, v2, d0, d1, d2, p0, p1, p2, rfl, rfl, rfl, h0, h1, h2⟩ := trodAll_three hA
  obtain ⟨a0, ok0, rfl⟩ := open_struct 6 frC (fun _ => True) fits_fr Tryz.underlying29 (show flatT Tryz.prog 6 29 = some kF by kernel_rfl) (hval 0 29 v0 rfl rfl) h0
  obtain ⟨a1, ok1, rfl⟩ := open_arrayT 4 c9 (fun _ => True) fits_c9 Tryz.underlying24 (show flatT Tryz.prog 4 24 = some k9 by kernel_rfl) (hval 1 24 v1 rfl rfl) h1
  obtain ⟨s2, n2, c2, rfl⟩ := okWide_slice Tryz.underlying31 (hval 2 31 v2 rfl rfl)
  obtain ⟨a2, hx2, ok2, hc2, hm2, hz2⟩ := open_row 4 inI (fun a : Int => -9223372036854775808 ≤ a ∧ a ≤ 9223372036854775807) fits_i64 Tryz.underlying31 (show flatT Tryz.prog 4 3 = some [.int .i64] by kernel_rfl) (by kernel_rfl) (by decide) h2
  exact ⟨[.val (.agg (frC a0).toArray), .val (.agg (c9 a1).toArray), .slf 1 a2.length (a2.flatMap inI)], (reps_cons (.val _) (reps_cons (.val _) (reps_cons (rep_row hx2 hc2 hm2 hz2 (fun _ => rfl)) reps_nil))), rises_d a0 a1 a2⟩
theorem frises_holds : Rows.FrontierRisesSaid :=
  OpenClaim.holds_of_wide 8 Tryz.f8 rfl rfl rfl rfl rfl rfl rfl ⟨rfl, rfl, rfl, rfl, rfl⟩ rfl rfl rfl rfl rfl frises_fnm Tryz.func8 frises_closed
    (of_decide_eq_true (by kernel_rfl)) (by unfold Func.isWrapper; rw [if_neg (of_decide_eq_false (by kernel_rfl))]; exact ⟨rfl, rfl⟩)
    (fun os started H enc _ => lift_law (s := Rows.frontierRisesSpec) (conds := Rows.frontierRisesRow.domain) started (by kernel_rfl) Tryz.func8
      (ChangeSpec.witness6 (enc := enc) (C := Tryz.checked) false ⟨#[], #[.agg (frC zF).toArray, .agg (c9 z9).toArray, .slice none 0 0], []⟩ 8 (by kernel_rfl) (by kernel_rfl) (by kernel_rfl) (by kernel_rfl))
      [29, 24, 31] 4 (by rw [Tryz.params8]) (by kernel_rfl) Tryz.underlying4 (by kernel_rfl) rfl
      (fun ds h => by match ds, h with | [d0, d1, d2], _ => rfl) frises_walked)
end Go.Proofs.YtnjnhghafjlmbaaGreat
