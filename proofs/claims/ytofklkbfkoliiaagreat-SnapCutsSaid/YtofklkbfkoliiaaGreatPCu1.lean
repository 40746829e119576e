/- The law SnapCuts of layer 21 holds: for every number, bytes, and places the program answers true, and does not panic. No other condition. -/
import Derived.Test.YtofklkbfkoliiaaGreatP7
import Derived.Test.YtofklkbfkoliiaaGreatRows
set_option maxRecDepth 20000
open List renaming cons_append → qaE, nil_append → qaH
namespace Go.Proofs.YtofklkbfkoliiaaGreat
set_option linter.unusedVariables false
set_option linter.unusedSimpArgs false
open Go.RowKit
open Go.ChangeShapes Go.WideShapes Go.ChangeAt Go.Joins Go.Deep
theorem JE : (Rows.snapCutsRow.inPlace == Tryz.pinned.checked.prog.inPlace 4) = true := by kernel_rfl
theorem Yc : (Rows.snapCutsRow.unfollowed == Tryz.pinned.checked.prog.unfollowed 4) = true := by kernel_rfl
theorem Yd : (Rows.snapCutsRow.recurses == Tryz.pinned.checked.prog.recurses 4) = true := by kernel_rfl
theorem Ye : (Rows.snapCutsRow.named == Tryz.pinned.checked.prog.varsNamed 4) = true := by kernel_rfl
theorem Yf : Tryz.pinned.checked.prog.funcNamed Rows.snapCutsRow.func = some 4 := by kernel_rfl
theorem zX : joinedFacts Tryz.pinned.checked.prog 4 Tryz.f4 Rows.snapCutsSpec Rows.snapCutsRow = true := by
 unfold joinedFacts
 rw [JE, Yc, Yd, Ye]
 kernel_rfl
theorem zY : Walked 4 [25, 30, 47] := Q6 fun H enc W base args ds p hA hval => by
 obtain ⟨v0, v1, v2, d0, d1, d2, p0, p1, p2, rfl, rfl, rfl, h0, h1, h2⟩ := trodAll_three hA
 obtain ⟨u0, hu0⟩ := okWide_int Tryz.underlying25 (hval 0 25 v0 rfl rfl)
 obtain ⟨a0, ok0, rfl⟩ := Q7 (.int .u64) (fun n : Int => 0 ≤ n ∧ n ≤ 18446744073709551615) (fun v h => z8 h) (show ux Tryz.prog 1 25 = some [.int .u64] by kernel_rfl) ⟨_, hu0, rfl⟩ h0
 obtain ⟨s1, n1, c1, rfl⟩ := okWide_slice Tryz.underlying30 (hval 1 30 v1 rfl rfl)
 obtain ⟨a1, hx1, ok1, hc1, hm1, hz1⟩ := JX 4 uc8 (fun n : Int => 0 ≤ n ∧ n ≤ 255) Xk Tryz.underlying30 (show ux Tryz.prog 4 5 = some [.int .u8] by kernel_rfl) (by kernel_rfl) (by decide) h1
 obtain ⟨s2, n2, c2, rfl⟩ := okWide_slice Tryz.underlying47 (hval 2 47 v2 rfl rfl)
 obtain ⟨a2, hx2, ok2, hc2, hm2, hz2⟩ := JX 4 inI (fun n : Int => -9223372036854775808 ≤ n ∧ n ≤ 9223372036854775807) Xl Tryz.underlying47 (show ux Tryz.prog 4 3 = some [.int .i64] by kernel_rfl) (by kernel_rfl) (by decide) h2
 exact ⟨[.val (.int .u64 a0), .slf 1 a1.length (a1.flatMap uc8), .slf 1 a2.length (a2.flatMap inI)], (u9 (.val _) (u9 (Y6 hx1 hc1 hm1 hz1 (fun _ => rfl)) (u9 (Y6 hx2 hc2 hm2 hz2 (fun _ => rfl)) Wo))), Hd a0 a1 a2 ok2⟩
theorem wsncuts_holds : Rows.SnapCutsSaid :=
 OpenClaim.holds_of_wide 4 Tryz.f4 rfl rfl rfl rfl rfl rfl rfl ⟨rfl, rfl, rfl, rfl, rfl⟩ rfl rfl rfl rfl rfl Yf Tryz.func4 zX
  (of_decide_eq_true (by kernel_rfl)) (by unfold Func.isWrapper; rw [if_neg (of_decide_eq_false (by kernel_rfl))]; exact ⟨rfl, rfl⟩)
  (fun os started H enc _ => Wi (s := Rows.snapCutsSpec) (conds := Rows.snapCutsRow.domain) started (by kernel_rfl) Tryz.func4
   (ChangeSpec.witness6 (enc := enc) (C := Tryz.checked) false ⟨#[], #[.int .u64 0, .slice none 0 0, .slice none 0 0], []⟩ 8 (by kernel_rfl) (by kernel_rfl) (by kernel_rfl) (by kernel_rfl))
   [25, 30, 47] 4 (by rw [Tryz.params4]) (by kernel_rfl) Tryz.underlying4 (by kernel_rfl) rfl
   (fun ds h => by match ds, h with | [d0, d1, d2], _ => rfl) zY)
end Go.Proofs.YtofklkbfkoliiaaGreat
