/- The law DiskKeeps of layer 22 holds: for every disk, row of operations, and two numbers the program answers true, and does not panic. No other condition. -/
import Derived.Test.YtjecmkaggobcjaaK7
import Derived.Test.YtjecmkaggobcjaaRows
namespace Go.Proofs.Ytjecmkaggobcjaa
set_option linter.unusedVariables false
set_option linter.unusedSimpArgs false
open Go.RowKit
open Go.ChangeShapes Go.WideShapes Go.ChangeAt Go.Joins Go.Deep
set_option maxRecDepth 20000 in
theorem dkeeps_walked : Walked 6 [26, 24, 55] := walked_of fun H enc W base args ds p hA hval => by
  obtain ⟨v0, v1, v2, d0, d1, d2, p0, p1, p2, rfl, rfl, rfl, h0, h1, h2⟩ := trodAll_three hA
  obtain ⟨a0, ok0, r0⟩ := open_agg (mk := dskD) (ok := okD) Try.underlying26 (opens_disk) (hval 0 26 v0 rfl rfl) h0
  obtain ⟨s1, n1, c1, rfl⟩ := okWide_slice Try.underlying24 (hval 1 24 v1 rfl rfl)
  obtain ⟨a1, ok1, r1⟩ := open_any (mk := fun l : List DOpn => .slm 3 l.length (l.flatMap oD)) (ok := fun l => ∀ a ∈ l, okO a) (opens_rows (sz := 3) opens_op Try.underlying24 (by kernel_rfl) (by decide) (fun _ => rfl) (fun _ => rfl)) rfl h1
  obtain ⟨a2, ok2, rfl⟩ := open_arrayT 4 twoV (fun _ => True) fits_two Try.underlying55 (show flatT Try.prog 4 55 = some [.int .i64, .int .i64] by kernel_rfl) (hval 2 55 v2 rfl rfl) h2
  exact ⟨[.agg ((dskD) a0), (fun l : List DOpn => .slm 3 l.length (l.flatMap oD)) a1, .val (.agg (twoV a2).toArray)], (reps_cons r0 (reps_cons r1 (reps_cons (.val _) reps_nil))), keeps_d a0.1 a0.2.1 a0.2.2.1 a0.2.2.2.1 a0.2.2.2.2 ok0.1 ok0.2 a1 ok1 a2.1 a2.2⟩
theorem dkeeps_holds : Rows.DiskKeepsSaid :=
  OpenClaim.holds_of_wide 6 Try.f6 rfl rfl rfl rfl rfl rfl rfl ⟨rfl, rfl, rfl, rfl, rfl⟩ rfl rfl rfl rfl rfl (by kernel_rfl) Try.func6 (by kernel_rfl)
    (of_decide_eq_true (by kernel_rfl)) (by unfold Func.isWrapper; rw [if_neg (of_decide_eq_false (by kernel_rfl))]; exact ⟨rfl, rfl⟩)
    (fun os started H enc _ => lift_law (s := Rows.diskKeepsSpec) (conds := Rows.diskKeepsRow.domain) started (by kernel_rfl) Try.func6
      (ChangeSpec.witness6 (enc := enc) (C := Try.checked) false ⟨#[], #[.agg #[.slice none 0 0, .slice none 0 0, .slice none 0 0, .slice none 0 0, .int .i64 0, .slice none 0 0, .bool false, .int .i64 0], .slice none 0 0, .agg #[.int .i64 0, .int .i64 0]], []⟩ 8 (by kernel_rfl) (by kernel_rfl) (by kernel_rfl) (by kernel_rfl))
      [26, 24, 55] 4 (by rw [Try.params6]) (by kernel_rfl) Try.underlying4 (by kernel_rfl) rfl
      (fun ds h => by match ds, h with | [d0, d1, d2], _ => rfl) dkeeps_walked)
end Go.Proofs.Ytjecmkaggobcjaa
