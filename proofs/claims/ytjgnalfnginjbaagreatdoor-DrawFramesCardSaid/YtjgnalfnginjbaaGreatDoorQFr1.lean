/- The law DrawFrames of layer 7 holds: for every canvas, and two places the program answers true, and does not panic. No other condition. -/
import Derived.Test.YtjgnalfnginjbaaGreatDoorQFr1x1
import Derived.Test.YtjgnalfnginjbaaGreatDoorRows
import Derived.Test.YtjgnalfnginjbaaGreatDoorCards
import Derived.Test.YtjgnalfnginjbaaGreatDoorTie
namespace Go.Proofs.YtjgnalfnginjbaaGreatDoor
set_option maxRecDepth 4000
set_option linter.unusedVariables false
set_option linter.unusedSimpArgs false
open Go.RowKit
open Go.ChangeShapes Go.WideShapes Go.ChangeAt Go.Joins Go.Deep
set_option maxRecDepth 100000
theorem frames_into : (Rows.drawFramesRow.inPlace == Tryz.pinned.checked.prog.inPlace 7) = true := by kernel_rfl
theorem frames_unf : (Rows.drawFramesRow.unfollowed == Tryz.pinned.checked.prog.unfollowed 7) = true := by kernel_rfl
theorem frames_rec : (Rows.drawFramesRow.recurses == Tryz.pinned.checked.prog.recurses 7) = true := by kernel_rfl
theorem frames_nmd : (Rows.drawFramesRow.named == Tryz.pinned.checked.prog.varsNamed 7) = true := by kernel_rfl
theorem frames_fnm : Tryz.pinned.checked.prog.funcNamed Rows.drawFramesRow.func = some 7 := by kernel_rfl
theorem frames_closed : joinedFacts Tryz.pinned.checked.prog 7 Tryz.f7 Rows.drawFramesSpec Rows.drawFramesRow = true := by
  unfold joinedFacts
  rw [frames_into, frames_unf, frames_rec, frames_nmd]
  kernel_rfl
theorem frames_walked : WalkedG 0 (c4 redC) 7 [24, 51, 51] := walked_ofG fun H enc W base args ds p hA hval => by
  obtain ⟨v0, v1, v2, d0, d1, d2, p0, p1, p2, rfl, rfl, rfl, h0, h1, h2⟩ := trodAll_three hA
  obtain ⟨a0, ok0, r0⟩ := open_agg (mk := shL) (ok := fun a => tsRng a.2.2) Tryz.underlying24 (opens_cv) (hval 0 24 v0 rfl rfl) h0
  obtain ⟨a1, ok1, rfl⟩ := open_struct 4 Go.Proofs.YtjgnalfnginjbaaGreatDoor.p2 (Go.Proofs.YtjgnalfnginjbaaGreatDoor.P2.rng) fits_p2 Tryz.underlying51 (show flatT Tryz.prog 4 51 = some [.int .i64, .int .i64] by kernel_rfl) (hval 1 51 v1 rfl rfl) h1
  obtain ⟨a2, ok2, rfl⟩ := open_struct 4 Go.Proofs.YtjgnalfnginjbaaGreatDoor.p2 (Go.Proofs.YtjgnalfnginjbaaGreatDoor.P2.rng) fits_p2 Tryz.underlying51 (show flatT Tryz.prog 4 51 = some [.int .i64, .int .i64] by kernel_rfl) (hval 2 51 v2 rfl rfl) h2
  exact ⟨[.agg ((shL) a0), .val (.agg (Go.Proofs.YtjgnalfnginjbaaGreatDoor.p2 a1).toArray), .val (.agg (Go.Proofs.YtjgnalfnginjbaaGreatDoor.p2 a2).toArray)], (reps_cons r0 (reps_cons (.val _) (reps_cons (.val _) reps_nil))), frames_d a0.1 a0.2.1 a0.2.2 a1 a2⟩
theorem frames_door (os : Os) (args : Array Value) : laidMetH Tryz.prog Rows.drawFramesRow.laid ((World.doorLaid Tryz.prog 400 os).forCall (fun _ _ => 0) ⟨#[], args, []⟩).memory :=
  laidMetH_of_parts3 (fuel := 8) (laidMet_of_run' 8 (by kernel_rfl) (by kernel_rfl)) (by kernel_rfl) (by kernel_rfl)
theorem frames_said : Rows.DrawFramesSaid :=
  OpenClaim.holds_of_wide 7 Tryz.f7 rfl rfl rfl rfl rfl rfl rfl ⟨rfl, rfl, rfl, rfl, rfl⟩ rfl rfl rfl rfl rfl frames_fnm Tryz.func7 frames_closed
    (of_decide_eq_true (by kernel_rfl)) (by unfold Func.isWrapper; rw [if_neg (of_decide_eq_false (by kernel_rfl))]; exact ⟨rfl, rfl⟩)
    (fun os started H enc _ => lift_laidG red_glob (s := Rows.drawFramesSpec) (laid := Rows.drawFramesRow.laid) (conds := Rows.drawFramesRow.domain) started (by kernel_rfl) Tryz.func7
      (ChangeSpec.witness_shaped (enc := enc) (C := Tryz.checked) (os := os) (X := fun w _ => laidMetH Tryz.prog Rows.drawFramesRow.laid w) false (World.doorLaid Tryz.prog 400 os) #[.agg #[.int .i64 0, .int .i64 0, .slice none 0 0], .agg #[.int .i64 0, .int .i64 0], .agg #[.int .i64 0, .int .i64 0]] 8 rfl (World.shaped_of_RefB (by kernel_rfl) (by kernel_rfl)) (by kernel_rfl) (by kernel_rfl) (by kernel_rfl) (frames_door os _))
      [24, 51, 51] 4 (by rw [Tryz.params7]) (by kernel_rfl) Tryz.underlying4 (by kernel_rfl) rfl
      (fun ds h => by match ds, h with | [d0, d1, d2], _ => rfl) frames_walked)
theorem frames_holds : Rows.DrawFramesCardSaid :=
  Claim7.holds_tied_plain_at .later [] [.data] true (true, "3a520cf5ef331fae9a4923a54e3b6ad72c3bbf88a709f7a781210316ba037cc0") true
    frames_said (fun _ h => by cases h) (by kernel_rfl) (fun _ h => by cases h) drawFrames_row_tie rfl ⟨rfl, rfl⟩ (by kernel_rfl) rfl
    (fun f fn hf hfn => by
      obtain rfl : f = 7 := Option.some.inj ((show Tryz.prog.funcNamed "gesso/gessolaw07.DrawFrames" = some 7 by kernel_rfl).symm.trans hf) |>.symm
      obtain rfl : fn = Tryz.f7 := (Option.some.inj (Tryz.func7.symm.trans hfn)).symm
      exact ⟨by kernel_rfl, fun j t ht => by
        rw [Tryz.params7] at ht
        have hm : t ∈ [24, 51, 51] := by simpa using Array.mem_of_getElem? ht
        have hall : ([24, 51, 51].all fun u => !Tryz.prog.wantsStandIn u) = true := by kernel_rfl
        exact (show Tryz.prog.wantsStandIn t = false by simpa using List.all_eq_true.1 hall t hm)⟩)
    (by kernel_rfl)
end Go.Proofs.YtjgnalfnginjbaaGreatDoor
