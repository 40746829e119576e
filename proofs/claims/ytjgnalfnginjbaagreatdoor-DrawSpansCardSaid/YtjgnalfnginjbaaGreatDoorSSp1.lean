/- The law DrawSpans of layer 7 holds: for every canvas, row of spans, and colour the program answers true, and does not panic. No other condition. -/
import Derived.Test.YtjgnalfnginjbaaGreatDoorS7
import Derived.Test.YtjgnalfnginjbaaGreatDoorRows
import Derived.Test.YtjgnalfnginjbaaGreatDoorCards
import Derived.Test.YtjgnalfnginjbaaGreatDoorTie
namespace Go.Proofs.YtjgnalfnginjbaaGreatDoor
set_option maxRecDepth 4000
set_option linter.unusedVariables false
set_option linter.unusedSimpArgs false
open Go.RowKit
open Go.ChangeShapes Go.WideShapes Go.ChangeAt Go.Joins Go.Deep
set_option maxRecDepth 100000
theorem dspans_into : (Rows.drawSpansRow.inPlace == Tryz.pinned.checked.prog.inPlace 3) = true := by kernel_rfl
theorem dspans_unf : (Rows.drawSpansRow.unfollowed == Tryz.pinned.checked.prog.unfollowed 3) = true := by kernel_rfl
theorem dspans_rec : (Rows.drawSpansRow.recurses == Tryz.pinned.checked.prog.recurses 3) = true := by kernel_rfl
theorem dspans_nmd : (Rows.drawSpansRow.named == Tryz.pinned.checked.prog.varsNamed 3) = true := by kernel_rfl
theorem dspans_fnm : Tryz.pinned.checked.prog.funcNamed Rows.drawSpansRow.func = some 3 := by kernel_rfl
theorem dspans_closed : joinedFacts Tryz.pinned.checked.prog 3 Tryz.f3 Rows.drawSpansSpec Rows.drawSpansRow = true := by
  unfold joinedFacts
  rw [dspans_into, dspans_unf, dspans_rec, dspans_nmd]
  kernel_rfl
theorem dspans_walked : WalkedG 0 (c4 redC) 3 [24, 25, 27] := walked_ofG fun H enc W base args ds p hA hval => by
  obtain ⟨v0, v1, v2, d0, d1, d2, p0, p1, p2, rfl, rfl, rfl, h0, h1, h2⟩ := trodAll_three hA
  obtain ⟨a0, ok0, r0⟩ := open_agg (mk := shL) (ok := fun a => tsRng a.2.2) Tryz.underlying24 (opens_cv) (hval 0 24 v0 rfl rfl) h0
  obtain ⟨s1, n1, c1, rfl⟩ := okWide_slice Tryz.underlying25 (hval 1 25 v1 rfl rfl)
  obtain ⟨a1, hx1, ok1, hc1, hm1, hz1⟩ := open_row 4 Go.Proofs.YtjgnalfnginjbaaGreatDoor.s3 (Go.Proofs.YtjgnalfnginjbaaGreatDoor.Sp.rng) fits_s3 Tryz.underlying25 (show flatT Tryz.prog 4 32 = some [.int .i64, .int .i64, .int .i64] by kernel_rfl) (by kernel_rfl) (by decide) h1
  obtain ⟨a2, ok2, rfl⟩ := open_struct 4 c4 (C4.rng) fits_c4 Tryz.underlying27 (show flatT Tryz.prog 4 27 = some [.int .u8, .int .u8, .int .u8, .int .u8] by kernel_rfl) (hval 2 27 v2 rfl rfl) h2
  exact ⟨[.agg ((shL) a0), .slf 3 a1.length (a1.flatMap Go.Proofs.YtjgnalfnginjbaaGreatDoor.s3), .val (.agg (c4 a2).toArray)], (reps_cons r0 (reps_cons (rep_row hx1 hc1 hm1 hz1 (fun _ => rfl)) (reps_cons (.val _) reps_nil))), dspans_d a0.1 a0.2.1 a0.2.2 ok0 a1 a2 ok2⟩
theorem dspans_door (os : Os) (args : Array Value) : laidMetH Tryz.prog Rows.drawSpansRow.laid ((World.doorLaid Tryz.prog 400 os).forCall (fun _ _ => 0) ⟨#[], args, []⟩).memory :=
  laidMetH_of_parts3 (fuel := 8) (laidMet_of_run' 8 (by kernel_rfl) (by kernel_rfl)) (by kernel_rfl) (by kernel_rfl)
theorem dspans_said : Rows.DrawSpansSaid :=
  OpenClaim.holds_of_wide 3 Tryz.f3 rfl rfl rfl rfl rfl rfl rfl ⟨rfl, rfl, rfl, rfl, rfl⟩ rfl rfl rfl rfl rfl dspans_fnm Tryz.func3 dspans_closed
    (of_decide_eq_true (by kernel_rfl)) (by unfold Func.isWrapper; rw [if_neg (of_decide_eq_false (by kernel_rfl))]; exact ⟨rfl, rfl⟩)
    (fun os started H enc _ => lift_laidG red_glob (s := Rows.drawSpansSpec) (laid := Rows.drawSpansRow.laid) (conds := Rows.drawSpansRow.domain) started (by kernel_rfl) Tryz.func3
      (ChangeSpec.witness_shaped (enc := enc) (C := Tryz.checked) (os := os) (X := fun w _ => laidMetH Tryz.prog Rows.drawSpansRow.laid w) false (World.doorLaid Tryz.prog 400 os) #[.agg #[.int .i64 0, .int .i64 0, .slice none 0 0], .slice none 0 0, .agg #[.int .u8 0, .int .u8 0, .int .u8 0, .int .u8 0]] 8 rfl (World.shaped_of_RefB (by kernel_rfl) (by kernel_rfl)) (by kernel_rfl) (by kernel_rfl) (by kernel_rfl) (dspans_door os _))
      [24, 25, 27] 4 (by rw [Tryz.params3]) (by kernel_rfl) Tryz.underlying4 (by kernel_rfl) rfl
      (fun ds h => by match ds, h with | [d0, d1, d2], _ => rfl) dspans_walked)
theorem dspans_holds : Rows.DrawSpansCardSaid :=
  Claim7.holds_tied_plain_at .later [] [.data] true (true, "3a520cf5ef331fae9a4923a54e3b6ad72c3bbf88a709f7a781210316ba037cc0") true
    dspans_said (fun _ h => by cases h) (by kernel_rfl) (fun _ h => by cases h) drawSpans_row_tie rfl ⟨rfl, rfl⟩ (by kernel_rfl) rfl
    (fun f fn hf hfn => by
      obtain rfl : f = 3 := Option.some.inj ((show Tryz.prog.funcNamed "gesso/gessolaw07.DrawSpans" = some 3 by kernel_rfl).symm.trans hf) |>.symm
      obtain rfl : fn = Tryz.f3 := (Option.some.inj (Tryz.func3.symm.trans hfn)).symm
      exact ⟨by kernel_rfl, fun j t ht => by
        rw [Tryz.params3] at ht
        have hm : t ∈ [24, 25, 27] := by simpa using Array.mem_of_getElem? ht
        have hall : ([24, 25, 27].all fun u => !Tryz.prog.wantsStandIn u) = true := by kernel_rfl
        exact (show Tryz.prog.wantsStandIn t = false by simpa using List.all_eq_true.1 hall t hm)⟩)
    (by kernel_rfl)
end Go.Proofs.YtjgnalfnginjbaaGreatDoor
