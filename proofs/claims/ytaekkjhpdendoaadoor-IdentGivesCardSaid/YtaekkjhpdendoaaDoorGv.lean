/- The law IdentGives of layer 11 holds: for every row of turns the call returns true, and the argument reads afterwards as it read before. No condition. -/
import Derived.Test.YtaekkjhpdendoaaDoorGw
import Derived.Test.YtaekkjhpdendoaaDoorFg
import Derived.Test.YtaekkjhpdendoaaDoorRows
import Derived.Test.YtaekkjhpdendoaaDoorCards
import Derived.Test.YtaekkjhpdendoaaDoorTie
import Derived.Test.YtaekkjhpdendoaaDoorLs
import Derived.SevenTiedAt
import Derived.ProofKit
namespace Go.Proofs.YtaekkjhpdendoaaDoor
set_option linter.unusedVariables false
set_option linter.unusedSimpArgs false
open Go.RowKit
open Go.ChangeShapes Go.WideShapes Go.ChangeAt Go.Joins Go.Deep
set_option maxRecDepth 100000

theorem gives_walked : Walked 7 [63] := walked_of fun H enc W base args ds p hA hval => by
  obtain ⟨v0, d0, rfl, rfl, h0⟩ := trodAll_one hA
  obtain ⟨s0, n0, c0, rfl⟩ := okWide_slice Tryd.underlying63 (hval 0 63 v0 rfl rfl)
  obtain ⟨a0, hx0, ok0, hc0, hm0, hz0⟩ := open_row 4 t3c (T3.rng) fits_t3 Tryd.underlying63 (show flatT Tryd.prog 4 68 = some [.int .i64, .bool, .int .u64] by kernel_rfl) (by kernel_rfl) (by decide) h0
  exact ⟨[.slf 3 a0.length (a0.flatMap t3c)], (reps_cons (rep_row hx0 hc0 hm0 hz0 (fun _ => rfl)) reps_nil), gives_d a0 ok0⟩
theorem gives_door (os : Os) (args : Array Value) : laidMetH Tryd.prog Rows.identGivesRow.laid ((World.doorLaid Tryd.prog 400 os).forCall (fun _ _ => 0) ⟨#[], args, []⟩).memory :=
  laidMetH_of_parts3 (fuel := 8) (laidMet_of_run' 8 (by kernel_rfl) (by kernel_rfl)) (by kernel_rfl) (by kernel_rfl)
theorem gives_said : Rows.IdentGivesSaid :=
  OpenClaim.holds_of_wide 7 Tryd.f7 rfl rfl rfl rfl rfl rfl rfl ⟨rfl, rfl, rfl, rfl, rfl⟩ rfl rfl rfl rfl rfl (by kernel_rfl) Tryd.func7 (by kernel_rfl)
    (of_decide_eq_true (by kernel_rfl)) (by unfold Func.isWrapper; rw [if_neg (of_decide_eq_false (by kernel_rfl))]; exact ⟨rfl, rfl⟩)
    (fun os started H enc _ => lift_laid (s := Rows.identGivesSpec) (laid := Rows.identGivesRow.laid) (conds := Rows.identGivesRow.domain) started (by kernel_rfl) Tryd.func7
      (ChangeSpec.witness_shaped (enc := enc) (C := Tryd.checked) (os := os) (X := fun w _ => laidMetH Tryd.prog Rows.identGivesRow.laid w) false (World.doorLaid Tryd.prog 400 os) #[.slice none 0 0] 8 rfl (World.shaped_of_RefB (by kernel_rfl) (by kernel_rfl)) (by kernel_rfl) (by kernel_rfl) (by kernel_rfl) (gives_door os _))
      [63] 4 (by rw [Tryd.params7]) (by kernel_rfl) Tryd.underlying4 (by kernel_rfl) rfl
      (fun ds h => by match ds, h with | [d0], _ => rfl) gives_walked)
theorem gives_holds : Rows.IdentGivesCardSaid :=
  Claim7.holds_tied_plain_at .later [] [.data, .data, .data] true (true, "d49c350ad447991527e56bc3a3c696a246ea99d563576b79bf31815c7a3c5b23") true
    gives_said (fun _ h => by cases h) (by kernel_rfl) (fun _ h => by cases h) identGives_row_tie rfl ⟨rfl, rfl⟩ (by kernel_rfl) rfl
    (fun f fn hf hfn => by
      obtain rfl : f = 7 := Option.some.inj ((show Tryd.prog.funcNamed "gesso/gessolaw11.IdentGives" = some 7 by kernel_rfl).symm.trans hf) |>.symm
      obtain rfl : fn = Tryd.f7 := (Option.some.inj (Tryd.func7.symm.trans hfn)).symm
      exact ⟨by kernel_rfl, fun j t ht => by
        rw [Tryd.params7] at ht
        have hm : t ∈ [63] := by simpa using Array.mem_of_getElem? ht
        have hall : ([63].all fun u => !Tryd.prog.wantsStandIn u) = true := by kernel_rfl
        exact (show Tryd.prog.wantsStandIn t = false by simpa using List.all_eq_true.1 hall t hm)⟩)
    (by kernel_rfl)

end Go.Proofs.YtaekkjhpdendoaaDoor
