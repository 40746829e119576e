/- The law VectorBounds of layer 13 holds: for every three vectors the call returns true, and the arguments read afterwards as they read before. No condition. -/
import Derived.Test.YtjpgabpicfcapaaV16
import Derived.Test.YtjpgabpicfcapaaBd
import Derived.Test.YtjpgabpicfcapaaVl
namespace Go.Proofs.Ytjpgabpicfcapaa
open Go.ChangeShapes Go.WideShapes Go.ChangeAt Go.RowKit Go.Joins Go.Deep

theorem bounds_walked : Walked 5 [24, 24, 24] := by
  intro H enc W base args ds p hA hval
  obtain ⟨v0, v1, v2, d0, d1, d2, p0, p1, p2, rfl, rfl, rfl, h0, h1, h2⟩ := trodAll_three hA
  obtain ⟨a, ra, rfl⟩ := open_vec (hval 0 24 v0 rfl rfl) h0
  obtain ⟨b, rb, rfl⟩ := open_vec (hval 1 24 v1 rfl rfl) h1
  obtain ⟨c, _, rfl⟩ := open_vec (hval 2 24 v2 rfl rfl) h2
  cases hm : (a.may && b.may) with
  | false => exact bounds_no a b c hm wakes_any W
  | true => exact bounds_yes a b c ra rb hm wakes_any W

set_option maxRecDepth 100000 in
theorem bounds_holds : Rows.VectorBoundsSaid :=
  OpenClaim.holds_of_wide 5 Try.f5 rfl rfl rfl rfl rfl rfl rfl ⟨rfl, rfl, rfl, rfl, rfl⟩ rfl rfl rfl rfl rfl (by kernel_rfl) Try.func5 (by kernel_rfl)
    (of_decide_eq_true (by kernel_rfl)) (by unfold Func.isWrapper; rw [if_neg (of_decide_eq_false (by kernel_rfl))]; exact ⟨rfl, rfl⟩)
    (fun os started H enc _ => lift_law (s := Rows.vectorBoundsSpec) (conds := Rows.vectorBoundsRow.domain) started (by kernel_rfl) Try.func5
      (ChangeSpec.witness6 (enc := enc) (C := Try.checked) false ⟨#[], #[zeroV, zeroV, zeroV], []⟩ 8 (by kernel_rfl) (by kernel_rfl) (by kernel_rfl) (by kernel_rfl))
      [24, 24, 24] 4 (by rw [Try.params5]) (by kernel_rfl) Try.underlying4 (by kernel_rfl) rfl
      (fun ds h => by match ds, h with | [d0, d1, d2], _ => rfl) bounds_walked)
end Go.Proofs.Ytjpgabpicfcapaa
