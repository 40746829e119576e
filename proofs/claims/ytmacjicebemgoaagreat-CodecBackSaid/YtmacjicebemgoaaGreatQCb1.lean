/- The law CodecBack of layer 19 holds: for every row of operations, bytes, and number the program answers true, and does not panic. No other condition. -/
import Derived.Test.YtmacjicebemgoaaGreatQCb1x1
import Derived.Test.YtmacjicebemgoaaGreatRows
namespace Go.Proofs.YtmacjicebemgoaaGreat
set_option linter.unusedVariables false
set_option linter.unusedSimpArgs false
open Go.RowKit
open Go.ChangeShapes Go.WideShapes Go.ChangeAt Go.Joins Go.Deep
set_option maxRecDepth 20000
theorem cback_into : (Rows.codecBackRow.inPlace == Tryz.pinned.checked.prog.inPlace 4) = true := by kernel_rfl
theorem cback_unf : (Rows.codecBackRow.unfollowed == Tryz.pinned.checked.prog.unfollowed 4) = true := by kernel_rfl
theorem cback_rec : (Rows.codecBackRow.recurses == Tryz.pinned.checked.prog.recurses 4) = true := by kernel_rfl
theorem cback_nmd : (Rows.codecBackRow.named == Tryz.pinned.checked.prog.varsNamed 4) = true := by kernel_rfl
theorem cback_fnm : Tryz.pinned.checked.prog.funcNamed Rows.codecBackRow.func = some 4 := by kernel_rfl
theorem cback_closed : joinedFacts Tryz.pinned.checked.prog 4 Tryz.f4 Rows.codecBackSpec Rows.codecBackRow = true := by
  unfold joinedFacts
  rw [cback_into, cback_unf, cback_rec, cback_nmd]
  kernel_rfl
theorem cback_walked : Walked 4 [26, 30, 3] := walked_of fun H enc W base args ds p hA hval => by
  obtain ⟨v0, v1, v2, d0, d1, d2, p0, p1, p2, rfl, rfl, rfl, h0, h1, h2⟩ := trodAll_three hA
  obtain ⟨s0, n0, c0, rfl⟩ := okWide_slice Tryz.underlying26 (hval 0 26 v0 rfl rfl)
  obtain ⟨a0, ok0, r0⟩ := open_any (mk := fun l : List OpM => .slm 19 l.length (l.flatMap opD)) (ok := fun l => ∀ o ∈ l, okX o) (opens_rows (sz := 19) opens_op Tryz.underlying26 (by kernel_rfl) (by decide) (fun _ => rfl) (fun _ => rfl)) rfl h0
  obtain ⟨s1, n1, c1, rfl⟩ := okWide_slice Tryz.underlying30 (hval 1 30 v1 rfl rfl)
  obtain ⟨a1, hx1, ok1, hc1, hm1, hz1⟩ := open_row 4 uc8 (fun n : Int => 0 ≤ n ∧ n ≤ 255) fits_u8 Tryz.underlying30 (show flatT Tryz.prog 4 5 = some [.int .u8] by kernel_rfl) (by kernel_rfl) (by decide) h1
  obtain ⟨u2, hu2⟩ := okWide_int Tryz.underlying3 (hval 2 3 v2 rfl rfl)
  obtain ⟨a2, ok2, rfl⟩ := open_prim (.int .i64) (fun n : Int => -9223372036854775808 ≤ n ∧ n ≤ 9223372036854775807) (fun v h => fits_prim_i64 h) (show flatT Tryz.prog 1 3 = some [.int .i64] by kernel_rfl) ⟨_, hu2, rfl⟩ h2
  exact ⟨[(fun l : List OpM => .slm 19 l.length (l.flatMap opD)) a0, .slf 1 a1.length (a1.flatMap uc8), .val (.int .i64 a2)], (reps_cons r0 (reps_cons (rep_row hx1 hc1 hm1 hz1 (fun _ => rfl)) (reps_cons (.val _) reps_nil))), back_d a0 a1 a2 ok0 ok1⟩
theorem cback_holds : Rows.CodecBackSaid :=
  OpenClaim.holds_of_wide 4 Tryz.f4 rfl rfl rfl rfl rfl rfl rfl ⟨rfl, rfl, rfl, rfl, rfl⟩ rfl rfl rfl rfl rfl cback_fnm Tryz.func4 cback_closed
    (of_decide_eq_true (by kernel_rfl)) (by unfold Func.isWrapper; rw [if_neg (of_decide_eq_false (by kernel_rfl))]; exact ⟨rfl, rfl⟩)
    (fun os started H enc _ => lift_law (s := Rows.codecBackSpec) (conds := Rows.codecBackRow.domain) started (by kernel_rfl) Tryz.func4
      (ChangeSpec.witness6 (enc := enc) (C := Tryz.checked) false ⟨#[], #[.slice none 0 0, .slice none 0 0, .int .i64 0], []⟩ 8 (by kernel_rfl) (by kernel_rfl) (by kernel_rfl) (by kernel_rfl))
      [26, 30, 3] 4 (by rw [Tryz.params4]) (by kernel_rfl) Tryz.underlying4 (by kernel_rfl) rfl
      (fun ds h => by match ds, h with | [d0, d1, d2], _ => rfl) cback_walked)
end Go.Proofs.YtmacjicebemgoaaGreat
