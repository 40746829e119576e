/- The law JournalJoins of layer 23 holds: for every row of rows of bytes, and row of bytes the program answers true, and does not panic. No other condition. -/
import Derived.Test.YtfdmfklofgmpfaaGreatFi
import Derived.Test.YtfdmfklofgmpfaaGreatRows
import Derived.Test.YtfdmfklofgmpfaaGreatLs
namespace Go.Proofs.YtfdmfklofgmpfaaGreat
set_option linter.unusedVariables false
set_option linter.unusedSimpArgs false
open Go.RowKit
open Go.ChangeShapes Go.WideShapes Go.ChangeAt Go.Joins Go.Deep

set_option maxRecDepth 20000 in
theorem jjoins_walked : Walked 3 [22, 23] := walked_of fun H enc W base args ds p hA hval => by
  obtain ⟨v0, v1, d0, d1, p0, p1, rfl, rfl, rfl, h0, h1⟩ := trodAll_two hA
  obtain ⟨s0, n0, c0, rfl⟩ := okWide_slice Tryz.underlying22 (hval 0 22 v0 rfl rfl)
  obtain ⟨a0, ok0, r0⟩ := open_any (mk := fun l : List (List Nat) => .slm 1 l.length (l.flatMap fun p => [rN p])) (ok := fun l => ∀ a ∈ l, ∀ x ∈ a, x < 256) (opens_rows (opens_row 4 un8 (fun n : Nat => n < 256) fits_n8 Tryz.underlying23 (show flatT Tryz.prog 4 5 = some [.int .u8] by kernel_rfl) (by kernel_rfl) (by decide) (fun _ => rfl)) Tryz.underlying22 (by kernel_rfl) (by decide) (fun _ => rfl) (fun _ => rfl)) rfl h0
  obtain ⟨s1, n1, c1, rfl⟩ := okWide_slice Tryz.underlying23 (hval 1 23 v1 rfl rfl)
  obtain ⟨a1, hx1, ok1, hc1, hm1, hz1⟩ := open_row 4 un8 (fun n : Nat => n < 256) fits_n8 Tryz.underlying23 (show flatT Tryz.prog 4 5 = some [.int .u8] by kernel_rfl) (by kernel_rfl) (by decide) h1
  exact ⟨[(fun l : List (List Nat) => .slm 1 l.length (l.flatMap fun p => [rN p])) a0, .slf 1 a1.length (a1.flatMap un8)], (reps_cons r0 (reps_cons (rep_row hx1 hc1 hm1 hz1 (fun _ => rfl)) reps_nil)), joins_d a0 a1 ok0 ok1⟩
theorem jjoins_holds : Rows.JournalJoinsSaid :=
  OpenClaim.holds_of_wide 3 Tryz.f3 rfl rfl rfl rfl rfl rfl rfl ⟨rfl, rfl, rfl, rfl, rfl⟩ rfl rfl rfl rfl rfl (by kernel_rfl) Tryz.func3 (by kernel_rfl)
    (of_decide_eq_true (by kernel_rfl)) (by unfold Func.isWrapper; rw [if_neg (of_decide_eq_false (by kernel_rfl))]; exact ⟨rfl, rfl⟩)
    (fun os started H enc _ => lift_law (s := Rows.journalJoinsSpec) (conds := Rows.journalJoinsRow.domain) started (by kernel_rfl) Tryz.func3
      (ChangeSpec.witness6 (enc := enc) (C := Tryz.checked) false ⟨#[], #[.slice none 0 0, .slice none 0 0], []⟩ 8 (by kernel_rfl) (by kernel_rfl) (by kernel_rfl) (by kernel_rfl))
      [22, 23] 4 (by rw [Tryz.params3]) (by kernel_rfl) Tryz.underlying4 (by kernel_rfl) rfl
      (fun ds h => by match ds, h with | [d0, d1], _ => rfl) jjoins_walked)

end Go.Proofs.YtfdmfklofgmpfaaGreat
