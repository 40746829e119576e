/- The law CodecLays of layer 19 holds: for every row of ids, vector, and row of operations the program answers true, and does not panic. No other condition. -/
import Derived.Test.YtmacjicebemgoaaGreatR6
import Derived.Test.YtmacjicebemgoaaGreatRows
namespace Go.Proofs.YtmacjicebemgoaaGreat
set_option linter.unusedVariables false
set_option linter.unusedSimpArgs false
open Go.RowKit
open Go.ChangeShapes Go.WideShapes Go.ChangeAt Go.Joins Go.Deep
set_option maxRecDepth 20000
theorem clays_into : (Rows.codecLaysRow.inPlace == Tryz.pinned.checked.prog.inPlace 3) = true := by kernel_rfl
theorem clays_unf : (Rows.codecLaysRow.unfollowed == Tryz.pinned.checked.prog.unfollowed 3) = true := by kernel_rfl
theorem clays_rec : (Rows.codecLaysRow.recurses == Tryz.pinned.checked.prog.recurses 3) = true := by kernel_rfl
theorem clays_nmd : (Rows.codecLaysRow.named == Tryz.pinned.checked.prog.varsNamed 3) = true := by kernel_rfl
theorem clays_fnm : Tryz.pinned.checked.prog.funcNamed Rows.codecLaysRow.func = some 3 := by kernel_rfl
theorem clays_closed : joinedFacts Tryz.pinned.checked.prog 3 Tryz.f3 Rows.codecLaysSpec Rows.codecLaysRow = true := by
  unfold joinedFacts
  rw [clays_into, clays_unf, clays_rec, clays_nmd]
  kernel_rfl
theorem clays_walked : Walked 3 [22, 25, 26] := walked_of fun H enc W base args ds p hA hval => by
  obtain ⟨v0, v1, v2, d0, d1, d2, p0, p1, p2, rfl, rfl, rfl, h0, h1, h2⟩ := trodAll_three hA
  obtain ⟨s0, n0, c0, rfl⟩ := okWide_slice Tryz.underlying22 (hval 0 22 v0 rfl rfl)
  obtain ⟨a0, hx0, ok0, hc0, hm0, hz0⟩ := open_row 4 idc (fun _ => True) fits_id Tryz.underlying22 (show flatT Tryz.prog 4 29 = some [.int .u64, .int .i64, .int .u64] by kernel_rfl) (by kernel_rfl) (by decide) h0
  obtain ⟨a1, ok1, rfl⟩ := open_arrayT 4 c9 (fun _ => True) fits_c9 Tryz.underlying25 (show flatT Tryz.prog 4 25 = some k9 by kernel_rfl) (hval 1 25 v1 rfl rfl) h1
  obtain ⟨s2, n2, c2, rfl⟩ := okWide_slice Tryz.underlying26 (hval 2 26 v2 rfl rfl)
  obtain ⟨a2, ok2, r2⟩ := open_any (mk := fun l : List OpM => .slm 19 l.length (l.flatMap opD)) (ok := fun l => ∀ o ∈ l, okX o) (opens_rows (sz := 19) opens_op Tryz.underlying26 (by kernel_rfl) (by decide) (fun _ => rfl) (fun _ => rfl)) rfl h2
  exact ⟨[.slf 3 a0.length (a0.flatMap idc), .val (.agg (c9 a1).toArray), (fun l : List OpM => .slm 19 l.length (l.flatMap opD)) a2], (reps_cons (rep_row hx0 hc0 hm0 hz0 (fun _ => rfl)) (reps_cons (.val _) (reps_cons r2 reps_nil))), lays_law a0 a1 a2 ok2⟩
theorem clays_holds : Rows.CodecLaysSaid :=
  OpenClaim.holds_of_wide 3 Tryz.f3 rfl rfl rfl rfl rfl rfl rfl ⟨rfl, rfl, rfl, rfl, rfl⟩ rfl rfl rfl rfl rfl clays_fnm Tryz.func3 clays_closed
    (of_decide_eq_true (by kernel_rfl)) (by unfold Func.isWrapper; rw [if_neg (of_decide_eq_false (by kernel_rfl))]; exact ⟨rfl, rfl⟩)
    (fun os started H enc _ => lift_law (s := Rows.codecLaysSpec) (conds := Rows.codecLaysRow.domain) started (by kernel_rfl) Tryz.func3
      (ChangeSpec.witness6 (enc := enc) (C := Tryz.checked) false ⟨#[], #[.slice none 0 0, .agg (c9 z9).toArray, .slice none 0 0], []⟩ 8 (by kernel_rfl) (by kernel_rfl) (by kernel_rfl) (by kernel_rfl))
      [22, 25, 26] 4 (by rw [Tryz.params3]) (by kernel_rfl) Tryz.underlying4 (by kernel_rfl) rfl
      (fun ds h => by match ds, h with | [d0, d1, d2], _ => rfl) clays_walked)
end Go.Proofs.YtmacjicebemgoaaGreat
