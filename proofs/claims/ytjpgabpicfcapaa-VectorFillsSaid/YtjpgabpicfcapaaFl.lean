/- The law VectorFills of layer 13 holds: for every two vectors the call returns true, and the arguments read afterwards as they read before. No condition. -/
import Derived.Test.YtjpgabpicfcapaaV16
import Derived.Test.YtjpgabpicfcapaaV17
import Derived.Test.YtjpgabpicfcapaaVl
namespace Go.Proofs.Ytjpgabpicfcapaa
open Go.ChangeShapes Go.WideShapes Go.ChangeAt Go.RowKit Go.Joins Go.Deep

theorem fills_walked : Walked 6 [24, 24] := by
  intro H enc W base args ds p hA hval
  obtain ⟨v0, v1, d0, d1, p0, p1, rfl, rfl, rfl, h0, h1⟩ := trodAll_two hA
  obtain ⟨a, ra, rfl⟩ := open_vec (hval 0 24 v0 rfl rfl) h0
  obtain ⟨b, rb, rfl⟩ := open_vec (hval 1 24 v1 rfl rfl) h1
  cases hm : (a.may && b.may) with
  | false => exact fills_no a b ra hm W
  | true =>
    rw [Bool.and_eq_true] at hm
    exact fills_yes a b ra rb hm.1 hm.2 W

set_option maxRecDepth 100000 in
theorem fills_holds : Rows.VectorFillsSaid :=
  OpenClaim.holds_of_wide 6 Try.f6 rfl rfl rfl rfl rfl rfl rfl ⟨rfl, rfl, rfl, rfl, rfl⟩ rfl rfl rfl rfl rfl (by kernel_rfl) Try.func6 (by kernel_rfl)
    (of_decide_eq_true (by kernel_rfl)) (by unfold Func.isWrapper; rw [if_neg (of_decide_eq_false (by kernel_rfl))]; exact ⟨rfl, rfl⟩)
    (fun os started H enc _ => lift_law (s := Rows.vectorFillsSpec) (conds := Rows.vectorFillsRow.domain) started (by kernel_rfl) Try.func6
      (ChangeSpec.witness6 (enc := enc) (C := Try.checked) false ⟨#[], #[zeroV, zeroV], []⟩ 8 (by kernel_rfl) (by kernel_rfl) (by kernel_rfl) (by kernel_rfl))
      [24, 24] 4 (by rw [Try.params6]) (by kernel_rfl) Try.underlying4 (by kernel_rfl) rfl
      (fun ds h => by match ds, h with | [d0, d1], _ => rfl) fills_walked)
end Go.Proofs.Ytjpgabpicfcapaa
