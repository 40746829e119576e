/- The law SnapBytes of layer 21 holds: for every two snapshots, and bytes the program answers true, and does not panic. No other condition. -/
import Derived.Test.YtofklkbfkoliiaaGreatQBy1x2
import Derived.Test.YtofklkbfkoliiaaGreatRows
set_option maxRecDepth 20000
namespace Go.Proofs.YtofklkbfkoliiaaGreat
set_option linter.unusedVariables false
set_option linter.unusedSimpArgs false
open Go.RowKit
open Go.ChangeShapes Go.WideShapes Go.ChangeAt Go.Joins Go.Deep
theorem Jl : (Rows.snapBytesRow.inPlace == Tryz.pinned.checked.prog.inPlace 3) = true := by kernel_rfl
theorem G0 : (Rows.snapBytesRow.unfollowed == Tryz.pinned.checked.prog.unfollowed 3) = true := by kernel_rfl
theorem G1 : (Rows.snapBytesRow.recurses == Tryz.pinned.checked.prog.recurses 3) = true := by kernel_rfl
theorem G2 : (Rows.snapBytesRow.named == Tryz.pinned.checked.prog.varsNamed 3) = true := by kernel_rfl
theorem G3 : Tryz.pinned.checked.prog.funcNamed Rows.snapBytesRow.func = some 3 := by kernel_rfl
theorem zG : joinedFacts Tryz.pinned.checked.prog 3 Tryz.f3 Rows.snapBytesSpec Rows.snapBytesRow = true := by
 unfold joinedFacts
 rw [Jl, G0, G1, G2]
 kernel_rfl
theorem zH : Walked 3 [29, 29, 30] := Jy fun H enc W base args ds p hA hval => by
 obtain ⟨v0, v1, v2, d0, d1, d2, p0, p1, p2, rfl, rfl, rfl, h0, h1, h2⟩ := trodAll_three hA
 obtain ⟨a0, ok0, r0⟩ := Ky (mk := snL) (ok := fun s => vu s.ts ∧ 0 ≤ s.f ∧ ∀ i, 9 ≤ i → s.v i = 0) Tryz.underlying29 (K6) (hval 0 29 v0 rfl rfl) h0
 obtain ⟨a1, ok1, r1⟩ := Ky (mk := snL) (ok := fun s => vu s.ts ∧ 0 ≤ s.f ∧ ∀ i, 9 ≤ i → s.v i = 0) Tryz.underlying29 (K6) (hval 1 29 v1 rfl rfl) h1
 obtain ⟨s2, n2, c2, rfl⟩ := okWide_slice Tryz.underlying30 (hval 2 30 v2 rfl rfl)
 obtain ⟨a2, hx2, ok2, hc2, hm2, hz2⟩ := Kl 4 uc8 (fun n : Int => 0 ≤ n ∧ n ≤ 255) Qf Tryz.underlying30 (show vN Tryz.prog 4 5 = some [.int .u8] by kernel_rfl) (by kernel_rfl) (by decide) h2
 exact ⟨[.agg ((snL) a0), .agg ((snL) a1), .slf 1 a2.length (a2.flatMap uc8)], (yp r0 (yp r1 (yp (Gy hx2 hc2 hm2 hz2 (fun _ => rfl)) Ks))), W0 a0 ok0.2.1 a1 a2 ok2⟩
theorem wsnbytes_holds : Rows.SnapBytesSaid :=
 OpenClaim.holds_of_wide 3 Tryz.f3 rfl rfl rfl rfl rfl rfl rfl ⟨rfl, rfl, rfl, rfl, rfl⟩ rfl rfl rfl rfl rfl G3 Tryz.func3 zG
  (of_decide_eq_true (by kernel_rfl)) (by unfold Func.isWrapper; rw [if_neg (of_decide_eq_false (by kernel_rfl))]; exact ⟨rfl, rfl⟩)
  (fun os started H enc _ => Yi (s := Rows.snapBytesSpec) (conds := Rows.snapBytesRow.domain) started (by kernel_rfl) Tryz.func3
   (ChangeSpec.witness6 (enc := enc) (C := Tryz.checked) false ⟨#[], #[.agg #[.int .i64 0, .int .i64 0, .slice none 0 0, .int .u64 0, .int .u64 0, .int .u64 0, .int .u64 0, .int .u64 0, .int .u64 0, .int .u64 0, .int .u64 0, .int .u64 0, .int .u64 0, .int .u64 0], .agg #[.int .i64 0, .int .i64 0, .slice none 0 0, .int .u64 0, .int .u64 0, .int .u64 0, .int .u64 0, .int .u64 0, .int .u64 0, .int .u64 0, .int .u64 0, .int .u64 0, .int .u64 0, .int .u64 0], .slice none 0 0], []⟩ 8 (by kernel_rfl) (by kernel_rfl) (by kernel_rfl) (by kernel_rfl))
   [29, 29, 30] 4 (by rw [Tryz.params3]) (by kernel_rfl) Tryz.underlying4 (by kernel_rfl) rfl
   (fun ds h => by match ds, h with | [d0, d1, d2], _ => rfl) zH)
end Go.Proofs.YtofklkbfkoliiaaGreat
