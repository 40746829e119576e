/- The law IdentClocks of layer 11 holds: for every row of clocks, and of times, the call returns true, and the arguments read afterwards as they read before. No condition. -/
import Derived.Test.YtaekkjhpdendoaaDoorIl
import Derived.Test.YtaekkjhpdendoaaDoorFi
import Derived.Test.YtaekkjhpdendoaaDoorRows
import Derived.Test.YtaekkjhpdendoaaDoorCards
import Derived.Test.YtaekkjhpdendoaaDoorTie
import Derived.Test.YtaekkjhpdendoaaDoorLs
import Derived.SevenTiedAt
import Derived.ProofKit
namespace Go.Proofs.YtaekkjhpdendoaaDoor
set_option linter.unusedVariables false
set_option linter.unusedSimpArgs false
open Go.RowKit
open Go.ChangeShapes Go.WideShapes Go.ChangeAt Go.Joins Go.Deep
set_option maxRecDepth 100000

theorem clocks_walked : Walked 4 [36, 37] := walked_of fun H enc W base args ds p hA hval => by
  obtain ⟨v0, v1, d0, d1, p0, p1, rfl, rfl, rfl, h0, h1⟩ := trodAll_two hA
  obtain ⟨s0, n0, c0, rfl⟩ := okWide_slice Tryd.underlying36 (hval 0 36 v0 rfl rfl)
  obtain ⟨a0, hx0, ok0, hc0, hm0, hz0⟩ := open_row 4 ckc (C3.rng) fits_ck Tryd.underlying36 (show flatT Tryd.prog 4 40 = some [.int .i64, .int .u64, .int .u64] by kernel_rfl) (by kernel_rfl) (by decide) h0
  obtain ⟨s1, n1, c1, rfl⟩ := okWide_slice Tryd.underlying37 (hval 1 37 v1 rfl rfl)
  obtain ⟨a1, hx1, ok1, hc1, hm1, hz1⟩ := open_row 4 uc (fun x => 0 ≤ x ∧ x ≤ 18446744073709551615) fits_u Tryd.underlying37 (show flatT Tryd.prog 4 25 = some [.int .u64] by kernel_rfl) (by kernel_rfl) (by decide) h1
  exact ⟨[.slf 3 a0.length (a0.flatMap ckc), .slf 1 a1.length (a1.flatMap uc)], (reps_cons (rep_row hx0 hc0 hm0 hz0 (fun _ => rfl)) (reps_cons (rep_row hx1 hc1 hm1 hz1 (fun _ => rfl)) reps_nil)), clocks_d a0 a1 ok0⟩
theorem clocks_door (os : Os) (args : Array Value) : laidMetH Tryd.prog Rows.identClocksRow.laid ((World.doorLaid Tryd.prog 400 os).forCall (fun _ _ => 0) ⟨#[], args, []⟩).memory :=
  laidMetH_of_parts3 (fuel := 8) (laidMet_of_run' 8 (by kernel_rfl) (by kernel_rfl)) (by kernel_rfl) (by kernel_rfl)
theorem clocks_said : Rows.IdentClocksSaid :=
  OpenClaim.holds_of_wide 4 Tryd.f4 rfl rfl rfl rfl rfl rfl rfl ⟨rfl, rfl, rfl, rfl, rfl⟩ rfl rfl rfl rfl rfl (by kernel_rfl) Tryd.func4 (by kernel_rfl)
    (of_decide_eq_true (by kernel_rfl)) (by unfold Func.isWrapper; rw [if_neg (of_decide_eq_false (by kernel_rfl))]; exact ⟨rfl, rfl⟩)
    (fun os started H enc _ => lift_laid (s := Rows.identClocksSpec) (laid := Rows.identClocksRow.laid) (conds := Rows.identClocksRow.domain) started (by kernel_rfl) Tryd.func4
      (ChangeSpec.witness_shaped (enc := enc) (C := Tryd.checked) (os := os) (X := fun w _ => laidMetH Tryd.prog Rows.identClocksRow.laid w) false (World.doorLaid Tryd.prog 400 os) #[.slice none 0 0, .slice none 0 0] 8 rfl (World.shaped_of_RefB (by kernel_rfl) (by kernel_rfl)) (by kernel_rfl) (by kernel_rfl) (by kernel_rfl) (clocks_door os _))
      [36, 37] 4 (by rw [Tryd.params4]) (by kernel_rfl) Tryd.underlying4 (by kernel_rfl) rfl
      (fun ds h => by match ds, h with | [d0, d1], _ => rfl) clocks_walked)
theorem clocks_holds : Rows.IdentClocksCardSaid :=
  Claim7.holds_tied_plain_at .later [] [.data, .data, .data] true (true, "d49c350ad447991527e56bc3a3c696a246ea99d563576b79bf31815c7a3c5b23") true
    clocks_said (fun _ h => by cases h) (by kernel_rfl) (fun _ h => by cases h) identClocks_row_tie rfl ⟨rfl, rfl⟩ (by kernel_rfl) rfl
    (fun f fn hf hfn => by
      obtain rfl : f = 4 := Option.some.inj ((show Tryd.prog.funcNamed "gesso/gessolaw11.IdentClocks" = some 4 by kernel_rfl).symm.trans hf) |>.symm
      obtain rfl : fn = Tryd.f4 := (Option.some.inj (Tryd.func4.symm.trans hfn)).symm
      exact ⟨by kernel_rfl, fun j t ht => by
        rw [Tryd.params4] at ht
        have hm : t ∈ [36, 37] := by simpa using Array.mem_of_getElem? ht
        have hall : ([36, 37].all fun u => !Tryd.prog.wantsStandIn u) = true := by kernel_rfl
        exact (show Tryd.prog.wantsStandIn t = false by simpa using List.all_eq_true.1 hall t hm)⟩)
    (by kernel_rfl)

end Go.Proofs.YtaekkjhpdendoaaDoor
