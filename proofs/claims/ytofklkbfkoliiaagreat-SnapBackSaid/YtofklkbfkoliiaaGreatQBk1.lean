/- The law SnapBack of layer 21 holds: for every snapshot, number, and bytes the program answers true, and does not panic. No other condition. -/
import Derived.Test.YtofklkbfkoliiaaGreatQBk1x1
import Derived.Test.YtofklkbfkoliiaaGreatRows
set_option maxRecDepth 20000
namespace Go.Proofs.YtofklkbfkoliiaaGreat
set_option linter.unusedVariables false
set_option linter.unusedSimpArgs false
open Go.RowKit
open Go.ChangeShapes Go.WideShapes Go.ChangeAt Go.Joins Go.Deep
theorem GW : (Rows.snapBackRow.inPlace == Tryz.pinned.checked.prog.inPlace 6) = true := by kernel_rfl
theorem Qj : (Rows.snapBackRow.unfollowed == Tryz.pinned.checked.prog.unfollowed 6) = true := by kernel_rfl
theorem Qk : (Rows.snapBackRow.recurses == Tryz.pinned.checked.prog.recurses 6) = true := by kernel_rfl
theorem Ql : (Rows.snapBackRow.named == Tryz.pinned.checked.prog.varsNamed 6) = true := by kernel_rfl
theorem Qm : Tryz.pinned.checked.prog.funcNamed Rows.snapBackRow.func = some 6 := by kernel_rfl
theorem K7 : joinedFacts Tryz.pinned.checked.prog 6 Tryz.f6 Rows.snapBackSpec Rows.snapBackRow = true := by
 unfold joinedFacts
 rw [GW, Qj, Qk, Ql]
 kernel_rfl
theorem K8 : Walked 6 [29, 25, 30] := Jy fun H enc W base args ds p hA hval => by
 obtain ⟨v0, v1, v2, d0, d1, d2, p0, p1, p2, rfl, rfl, rfl, h0, h1, h2⟩ := trodAll_three hA
 obtain ⟨a0, ok0, r0⟩ := Ky (mk := snL) (ok := fun s => vu s.ts ∧ 0 ≤ s.f ∧ ∀ i, 9 ≤ i → s.v i = 0) Tryz.underlying29 (K6) (hval 0 29 v0 rfl rfl) h0
 obtain ⟨u1, hu1⟩ := okWide_int Tryz.underlying25 (hval 1 25 v1 rfl rfl)
 obtain ⟨a1, ok1, rfl⟩ := WX (.int .u64) (fun n : Int => 0 ≤ n ∧ n ≤ 18446744073709551615) (fun v h => uD h) (show vN Tryz.prog 1 25 = some [.int .u64] by kernel_rfl) ⟨_, hu1, rfl⟩ h1
 obtain ⟨s2, n2, c2, rfl⟩ := okWide_slice Tryz.underlying30 (hval 2 30 v2 rfl rfl)
 obtain ⟨a2, hx2, ok2, hc2, hm2, hz2⟩ := Kl 4 uc8 (fun n : Int => 0 ≤ n ∧ n ≤ 255) Qf Tryz.underlying30 (show vN Tryz.prog 4 5 = some [.int .u8] by kernel_rfl) (by kernel_rfl) (by decide) h2
 exact ⟨[.agg ((snL) a0), .val (.int .u64 a1), .slf 1 a2.length (a2.flatMap uc8)], (yp r0 (yp (.val _) (yp (Gy hx2 hc2 hm2 hz2 (fun _ => rfl)) Ks))), Zn a0 ok0.1 ok0.2.1 ok0.2.2 a1 ok1 a2 ok2⟩
theorem wsnback_holds : Rows.SnapBackSaid :=
 OpenClaim.holds_of_wide 6 Tryz.f6 rfl rfl rfl rfl rfl rfl rfl ⟨rfl, rfl, rfl, rfl, rfl⟩ rfl rfl rfl rfl rfl Qm Tryz.func6 K7
  (of_decide_eq_true (by kernel_rfl)) (by unfold Func.isWrapper; rw [if_neg (of_decide_eq_false (by kernel_rfl))]; exact ⟨rfl, rfl⟩)
  (fun os started H enc _ => Yi (s := Rows.snapBackSpec) (conds := Rows.snapBackRow.domain) started (by kernel_rfl) Tryz.func6
   (ChangeSpec.witness6 (enc := enc) (C := Tryz.checked) false ⟨#[], #[.agg #[.int .i64 0, .int .i64 0, .slice none 0 0, .int .u64 0, .int .u64 0, .int .u64 0, .int .u64 0, .int .u64 0, .int .u64 0, .int .u64 0, .int .u64 0, .int .u64 0, .int .u64 0, .int .u64 0], .int .u64 0, .slice none 0 0], []⟩ 8 (by kernel_rfl) (by kernel_rfl) (by kernel_rfl) (by kernel_rfl))
   [29, 25, 30] 4 (by rw [Tryz.params6]) (by kernel_rfl) Tryz.underlying4 (by kernel_rfl) rfl
   (fun ds h => by match ds, h with | [d0, d1, d2], _ => rfl) K8)
end Go.Proofs.YtofklkbfkoliiaaGreat
