/- The law SnapPiles of layer 21 holds: for every pile, and row of pieces the program answers true, and does not panic. No other condition. -/
import Derived.Test.YtofklkbfkoliiaaGreatV8
import Derived.Test.YtofklkbfkoliiaaGreatRows
set_option maxRecDepth 20000
open List renaming cons_append → qbD, nil_append → qbF
namespace Go.Proofs.YtofklkbfkoliiaaGreat
set_option linter.unusedVariables false
set_option linter.unusedSimpArgs false
open Go.RowKit
open Go.ChangeShapes Go.WideShapes Go.ChangeAt Go.Joins Go.Deep
theorem Kt : (Rows.snapPilesRow.inPlace == Tryz.pinned.checked.prog.inPlace 5) = true := by kernel_rfl
theorem Ga : (Rows.snapPilesRow.unfollowed == Tryz.pinned.checked.prog.unfollowed 5) = true := by kernel_rfl
theorem Gb : (Rows.snapPilesRow.recurses == Tryz.pinned.checked.prog.recurses 5) = true := by kernel_rfl
theorem Gc : (Rows.snapPilesRow.named == Tryz.pinned.checked.prog.varsNamed 5) = true := by kernel_rfl
theorem Ge : Tryz.pinned.checked.prog.funcNamed Rows.snapPilesRow.func = some 5 := by kernel_rfl
theorem xP : joinedFacts Tryz.pinned.checked.prog 5 Tryz.f5 Rows.snapPilesSpec Rows.snapPilesRow = true := by
 unfold joinedFacts
 rw [Kt, Ga, Gb, Gc]
 kernel_rfl
theorem xQ : Walked 5 [61, 48] := VN fun H enc W base args ds p hA hval => by
 obtain ⟨v0, v1, d0, d1, p0, p1, rfl, rfl, rfl, h0, h1⟩ := trodAll_two hA
 obtain ⟨a0, ok0, r0⟩ := Uu (mk := piD) (ok := fun _ => True) Tryz.underlying61 (X2) (hval 0 61 v0 rfl rfl) h0
 obtain ⟨s1, n1, c1, rfl⟩ := okWide_slice Tryz.underlying48 (hval 1 48 v1 rfl rfl)
 obtain ⟨a1, ok1, r1⟩ := Um (mk := fun l : List PcM => .slm 4 l.length (l.flatMap pcD)) (ok := fun l => ∀ a ∈ l, True) (zH X1 Tryz.underlying48 (by kernel_rfl) (by decide) (fun _ => rfl) (fun _ => rfl)) rfl h1
 exact ⟨[.agg ((piD) a0), (fun l : List PcM => .slm 4 l.length (l.flatMap pcD)) a1], (vf r0 (vf r1 wl)), Ae a0 a1⟩
theorem wsnpiles_holds : Rows.SnapPilesSaid :=
 OpenClaim.holds_of_wide 5 Tryz.f5 rfl rfl rfl rfl rfl rfl rfl ⟨rfl, rfl, rfl, rfl, rfl⟩ rfl rfl rfl rfl rfl Ge Tryz.func5 xP
  (of_decide_eq_true (by kernel_rfl)) (by unfold Func.isWrapper; rw [if_neg (of_decide_eq_false (by kernel_rfl))]; exact ⟨rfl, rfl⟩)
  (fun os started H enc _ => W4 (s := Rows.snapPilesSpec) (conds := Rows.snapPilesRow.domain) started (by kernel_rfl) Tryz.func5
   (ChangeSpec.witness6 (enc := enc) (C := Tryz.checked) false ⟨#[], #[.agg #[.int .u64 0, .int .i64 0, .slice none 0 0], .slice none 0 0], []⟩ 8 (by kernel_rfl) (by kernel_rfl) (by kernel_rfl) (by kernel_rfl))
   [61, 48] 4 (by rw [Tryz.params5]) (by kernel_rfl) Tryz.underlying4 (by kernel_rfl) rfl
   (fun ds h => by match ds, h with | [d0, d1], _ => rfl) xQ)
end Go.Proofs.YtofklkbfkoliiaaGreat
