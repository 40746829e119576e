/- The law DiskDoes of layer 22 holds: for every disk, and row of operations the program answers true, and does not panic. No other condition. -/
import Derived.Test.YtjecmkaggobcjaaQ7
import Derived.Test.YtjecmkaggobcjaaRows
namespace Go.Proofs.Ytjecmkaggobcjaa
set_option linter.unusedVariables false
set_option linter.unusedSimpArgs false
open Go.RowKit
open Go.ChangeShapes Go.WideShapes Go.ChangeAt Go.Joins Go.Deep
set_option maxRecDepth 20000 in
theorem ddoes_walked : Walked 4 [26, 24] := walked_of fun H enc W base args ds p hA hval => by
  obtain ⟨v0, v1, d0, d1, p0, p1, rfl, rfl, rfl, h0, h1⟩ := trodAll_two hA
  obtain ⟨a0, ok0, r0⟩ := open_agg (mk := dskD) (ok := okD) Try.underlying26 (opens_disk) (hval 0 26 v0 rfl rfl) h0
  obtain ⟨s1, n1, c1, rfl⟩ := okWide_slice Try.underlying24 (hval 1 24 v1 rfl rfl)
  obtain ⟨a1, ok1, r1⟩ := open_any (mk := fun l : List DOpn => .slm 3 l.length (l.flatMap oD)) (ok := fun l => ∀ a ∈ l, okO a) (opens_rows (sz := 3) opens_op Try.underlying24 (by kernel_rfl) (by decide) (fun _ => rfl) (fun _ => rfl)) rfl h1
  exact ⟨[.agg ((dskD) a0), (fun l : List DOpn => .slm 3 l.length (l.flatMap oD)) a1], (reps_cons r0 (reps_cons r1 reps_nil)), does_law a0.1 a0.2.1 a0.2.2.1 a0.2.2.2.1 a0.2.2.2.2 a1⟩
theorem ddoes_holds : Rows.DiskDoesSaid :=
  OpenClaim.holds_of_wide 4 Try.f4 rfl rfl rfl rfl rfl rfl rfl ⟨rfl, rfl, rfl, rfl, rfl⟩ rfl rfl rfl rfl rfl (by kernel_rfl) Try.func4 (by kernel_rfl)
    (of_decide_eq_true (by kernel_rfl)) (by unfold Func.isWrapper; rw [if_neg (of_decide_eq_false (by kernel_rfl))]; exact ⟨rfl, rfl⟩)
    (fun os started H enc _ => lift_law (s := Rows.diskDoesSpec) (conds := Rows.diskDoesRow.domain) started (by kernel_rfl) Try.func4
      (ChangeSpec.witness6 (enc := enc) (C := Try.checked) false ⟨#[], #[.agg #[.slice none 0 0, .slice none 0 0, .slice none 0 0, .slice none 0 0, .int .i64 0, .slice none 0 0, .bool false, .int .i64 0], .slice none 0 0], []⟩ 8 (by kernel_rfl) (by kernel_rfl) (by kernel_rfl) (by kernel_rfl))
      [26, 24] 4 (by rw [Try.params4]) (by kernel_rfl) Try.underlying4 (by kernel_rfl) rfl
      (fun ds h => by match ds, h with | [d0, d1], _ => rfl) ddoes_walked)
end Go.Proofs.Ytjecmkaggobcjaa
