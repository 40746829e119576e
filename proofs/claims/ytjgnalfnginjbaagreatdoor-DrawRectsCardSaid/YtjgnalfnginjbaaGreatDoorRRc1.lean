/- The law DrawRects of layer 7 holds: for every canvas, colour, and row of places the program answers true, and does not panic. No other condition. -/
import Derived.Test.YtjgnalfnginjbaaGreatDoorR7
import Derived.Test.YtjgnalfnginjbaaGreatDoorRows
import Derived.Test.YtjgnalfnginjbaaGreatDoorCards
import Derived.Test.YtjgnalfnginjbaaGreatDoorTie
namespace Go.Proofs.YtjgnalfnginjbaaGreatDoor
set_option maxRecDepth 4000
set_option linter.unusedVariables false
set_option linter.unusedSimpArgs false
open Go.RowKit
open Go.ChangeShapes Go.WideShapes Go.ChangeAt Go.Joins Go.Deep
set_option maxRecDepth 100000
theorem drects_into : (Rows.drawRectsRow.inPlace == Tryz.pinned.checked.prog.inPlace 5) = true := by kernel_rfl
theorem drects_unf : (Rows.drawRectsRow.unfollowed == Tryz.pinned.checked.prog.unfollowed 5) = true := by kernel_rfl
theorem drects_rec : (Rows.drawRectsRow.recurses == Tryz.pinned.checked.prog.recurses 5) = true := by kernel_rfl
theorem drects_nmd : (Rows.drawRectsRow.named == Tryz.pinned.checked.prog.varsNamed 5) = true := by kernel_rfl
theorem drects_fnm : Tryz.pinned.checked.prog.funcNamed Rows.drawRectsRow.func = some 5 := by kernel_rfl
theorem drects_closed : joinedFacts Tryz.pinned.checked.prog 5 Tryz.f5 Rows.drawRectsSpec Rows.drawRectsRow = true := by
  unfold joinedFacts
  rw [drects_into, drects_unf, drects_rec, drects_nmd]
  kernel_rfl
theorem drects_walked : WalkedG 0 (c4 redC) 5 [24, 27, 48] := walked_ofG fun H enc W base args ds p hA hval => by
  obtain ⟨v0, v1, v2, d0, d1, d2, p0, p1, p2, rfl, rfl, rfl, h0, h1, h2⟩ := trodAll_three hA
  obtain ⟨a0, ok0, r0⟩ := open_agg (mk := shL) (ok := fun a => tsRng a.2.2) Tryz.underlying24 (opens_cv) (hval 0 24 v0 rfl rfl) h0
  obtain ⟨a1, ok1, rfl⟩ := open_struct 4 c4 (C4.rng) fits_c4 Tryz.underlying27 (show flatT Tryz.prog 4 27 = some [.int .u8, .int .u8, .int .u8, .int .u8] by kernel_rfl) (hval 1 27 v1 rfl rfl) h1
  obtain ⟨s2, n2, c2, rfl⟩ := okWide_slice Tryz.underlying48 (hval 2 48 v2 rfl rfl)
  obtain ⟨a2, hx2, ok2, hc2, hm2, hz2⟩ := open_row 4 Go.Proofs.YtjgnalfnginjbaaGreatDoor.p2 (Go.Proofs.YtjgnalfnginjbaaGreatDoor.P2.rng) fits_p2 Tryz.underlying48 (show flatT Tryz.prog 4 51 = some [.int .i64, .int .i64] by kernel_rfl) (by kernel_rfl) (by decide) h2
  exact ⟨[.agg ((shL) a0), .val (.agg (c4 a1).toArray), .slf 2 a2.length (a2.flatMap Go.Proofs.YtjgnalfnginjbaaGreatDoor.p2)], (reps_cons r0 (reps_cons (.val _) (reps_cons (rep_row hx2 hc2 hm2 hz2 (fun _ => rfl)) reps_nil))), drects_d a0.1 a0.2.1 a0.2.2 ok0 a1 ok1 a2⟩
theorem drects_door (os : Os) (args : Array Value) : laidMetH Tryz.prog Rows.drawRectsRow.laid ((World.doorLaid Tryz.prog 400 os).forCall (fun _ _ => 0) ⟨#[], args, []⟩).memory :=
  laidMetH_of_parts3 (fuel := 8) (laidMet_of_run' 8 (by kernel_rfl) (by kernel_rfl)) (by kernel_rfl) (by kernel_rfl)
theorem drects_said : Rows.DrawRectsSaid :=
  OpenClaim.holds_of_wide 5 Tryz.f5 rfl rfl rfl rfl rfl rfl rfl ⟨rfl, rfl, rfl, rfl, rfl⟩ rfl rfl rfl rfl rfl drects_fnm Tryz.func5 drects_closed
    (of_decide_eq_true (by kernel_rfl)) (by unfold Func.isWrapper; rw [if_neg (of_decide_eq_false (by kernel_rfl))]; exact ⟨rfl, rfl⟩)
    (fun os started H enc _ => lift_laidG red_glob (s := Rows.drawRectsSpec) (laid := Rows.drawRectsRow.laid) (conds := Rows.drawRectsRow.domain) started (by kernel_rfl) Tryz.func5
      (ChangeSpec.witness_shaped (enc := enc) (C := Tryz.checked) (os := os) (X := fun w _ => laidMetH Tryz.prog Rows.drawRectsRow.laid w) false (World.doorLaid Tryz.prog 400 os) #[.agg #[.int .i64 0, .int .i64 0, .slice none 0 0], .agg #[.int .u8 0, .int .u8 0, .int .u8 0, .int .u8 0], .slice none 0 0] 8 rfl (World.shaped_of_RefB (by kernel_rfl) (by kernel_rfl)) (by kernel_rfl) (by kernel_rfl) (by kernel_rfl) (drects_door os _))
      [24, 27, 48] 4 (by rw [Tryz.params5]) (by kernel_rfl) Tryz.underlying4 (by kernel_rfl) rfl
      (fun ds h => by match ds, h with | [d0, d1, d2], _ => rfl) drects_walked)
theorem drects_holds : Rows.DrawRectsCardSaid :=
  Claim7.holds_tied_plain_at .later [] [.data] true (true, "3a520cf5ef331fae9a4923a54e3b6ad72c3bbf88a709f7a781210316ba037cc0") true
    drects_said (fun _ h => by cases h) (by kernel_rfl) (fun _ h => by cases h) drawRects_row_tie rfl ⟨rfl, rfl⟩ (by kernel_rfl) rfl
    (fun f fn hf hfn => by
      obtain rfl : f = 5 := Option.some.inj ((show Tryz.prog.funcNamed "gesso/gessolaw07.DrawRects" = some 5 by kernel_rfl).symm.trans hf) |>.symm
      obtain rfl : fn = Tryz.f5 := (Option.some.inj (Tryz.func5.symm.trans hfn)).symm
      exact ⟨by kernel_rfl, fun j t ht => by
        rw [Tryz.params5] at ht
        have hm : t ∈ [24, 27, 48] := by simpa using Array.mem_of_getElem? ht
        have hall : ([24, 27, 48].all fun u => !Tryz.prog.wantsStandIn u) = true := by kernel_rfl
        exact (show Tryz.prog.wantsStandIn t = false by simpa using List.all_eq_true.1 hall t hm)⟩)
    (by kernel_rfl)
end Go.Proofs.YtjgnalfnginjbaaGreatDoor
