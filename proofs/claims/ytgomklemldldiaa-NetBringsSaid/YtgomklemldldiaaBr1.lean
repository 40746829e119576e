/- The law NetBrings of layer 25 holds: for every row of acts the program answers true, and does not panic. No other condition. -/
import Derived.Test.YtgomklemldldiaaFi
import Derived.Test.YtgomklemldldiaaRows
import Derived.Test.YtgomklemldldiaaLs
namespace Go.Proofs.Ytgomklemldldiaa
set_option linter.unusedVariables false
set_option linter.unusedSimpArgs false
open Go.RowKit
open Go.ChangeShapes Go.WideShapes Go.ChangeAt Go.Joins Go.Deep

set_option maxRecDepth 20000 in
theorem nbrings_walked : Walked 5 [60] := walked_of fun H enc W base args ds p hA hval => by
  obtain ⟨v0, d0, rfl, rfl, h0⟩ := trodAll_one hA
  obtain ⟨s0, n0, c0, rfl⟩ := okWide_slice Try.underlying60 (hval 0 60 v0 rfl rfl)
  obtain ⟨a0, ok0, r0⟩ := open_any (mk := fun l : List BAct => .slm 7 l.length (l.flatMap bD)) (ok := fun l => ∀ a ∈ l, okB a) (opens_rows opens_act Try.underlying60 (by kernel_rfl) (by decide) (fun _ => rfl) (fun _ => rfl)) rfl h0
  exact ⟨[(fun l : List BAct => .slm 7 l.length (l.flatMap bD)) a0], (reps_cons r0 reps_nil), brings_d a0 ok0⟩
theorem nbrings_holds : Rows.NetBringsSaid :=
  OpenClaim.holds_of_wide 5 Try.f5 rfl rfl rfl rfl rfl rfl rfl ⟨rfl, rfl, rfl, rfl, rfl⟩ rfl rfl rfl rfl rfl (by kernel_rfl) Try.func5 (by kernel_rfl)
    (of_decide_eq_true (by kernel_rfl)) (by unfold Func.isWrapper; rw [if_neg (of_decide_eq_false (by kernel_rfl))]; exact ⟨rfl, rfl⟩)
    (fun os started H enc _ => lift_law (s := Rows.netBringsSpec) (conds := Rows.netBringsRow.domain) started (by kernel_rfl) Try.func5
      (ChangeSpec.witness6 (enc := enc) (C := Try.checked) false ⟨#[], #[.slice none 0 0], []⟩ 8 (by kernel_rfl) (by kernel_rfl) (by kernel_rfl) (by kernel_rfl))
      [60] 4 (by rw [Try.params5]) (by kernel_rfl) Try.underlying4 (by kernel_rfl) rfl
      (fun ds h => by match ds, h with | [d0], _ => rfl) nbrings_walked)

end Go.Proofs.Ytgomklemldldiaa
