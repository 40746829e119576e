/- The law IdentTexts of layer 11 holds: for every row of ids, and of texts, the call returns true, and the arguments read afterwards as they read before. No condition. -/
import Derived.Test.YtaekkjhpdendoaaDoorQ4
import Derived.Test.YtaekkjhpdendoaaDoorRows
import Derived.Test.YtaekkjhpdendoaaDoorCards
import Derived.Test.YtaekkjhpdendoaaDoorTie
import Derived.SevenTiedAt
import Derived.ProofKit
namespace Go.Proofs.YtaekkjhpdendoaaDoor
set_option linter.unusedVariables false
set_option linter.unusedSimpArgs false
open Go.RowKit
open Go.ChangeShapes Go.WideShapes Go.ChangeAt Go.Joins Go.Deep
set_option maxRecDepth 100000
theorem texts_glob : ∀ W, laidMetH Tryd.prog Rows.identTextsRow.laid W → globMet W 0 pow10L := fun W h =>
  glob_of_laid (name := "internal/strconv.uint64pow10") (g := 0) (n := 20) (k := .u64) (zs := (List.range 20).map fun k => ((10 ^ k : Nat) : Int)) (by kernel_rfl) (List.mem_cons_of_mem _ (List.mem_cons_of_mem _ (List.mem_cons_self ..))) (by kernel_rfl) (by kernel_rfl) Tryd.underlying113 Tryd.underlying25 (by kernel_rfl) (by kernel_rfl) h
theorem texts_walked : WalkedG 0 pow10L 5 [22, 55] := walked_ofG fun H enc W base args ds p hA hval => by
  obtain ⟨v0, v1, d0, d1, p0, p1, rfl, rfl, rfl, h0, h1⟩ := trodAll_two hA
  obtain ⟨s0, n0, c0, rfl⟩ := okWide_slice Tryd.underlying22 (hval 0 22 v0 rfl rfl)
  obtain ⟨a0, hx0, ok0, hc0, hm0, hz0⟩ := open_row 4 idc (I3.rng) fits_i3r Tryd.underlying22 (show flatT Tryd.prog 4 27 = some [.int .u64, .int .i64, .int .u64] by kernel_rfl) (by kernel_rfl) (by decide) h0
  obtain ⟨s1, n1, c1, rfl⟩ := okWide_slice Tryd.underlying55 (hval 1 55 v1 rfl rfl)
  obtain ⟨a1, hx1, ok1, hc1, hm1, hz1⟩ := open_row 4 st8 (isB) fits_st8 Tryd.underlying55 (show flatT Tryd.prog 4 9 = some [.str] by kernel_rfl) (by kernel_rfl) (by decide) h1
  exact ⟨[.slf 3 a0.length (a0.flatMap idc), .slf 1 a1.length (a1.flatMap st8)], (reps_cons (rep_row hx0 hc0 hm0 hz0 (fun _ => rfl)) (reps_cons (rep_row hx1 hc1 hm1 hz1 (fun _ => rfl)) reps_nil)), texts_d a0 a1 ok0 ok1⟩
theorem texts_door (os : Os) (args : Array Value) : laidMetH Tryd.prog Rows.identTextsRow.laid ((World.doorLaid Tryd.prog 400 os).forCall (fun _ _ => 0) ⟨#[], args, []⟩).memory :=
  laidMetH_of_parts3 (fuel := 8) (laidMet_of_run' 8 (by kernel_rfl) (by kernel_rfl)) (by kernel_rfl) (by kernel_rfl)
theorem texts_said : Rows.IdentTextsSaid :=
  OpenClaim.holds_of_wide 5 Tryd.f5 rfl rfl rfl rfl rfl rfl rfl ⟨rfl, rfl, rfl, rfl, rfl⟩ rfl rfl rfl rfl rfl (by kernel_rfl) Tryd.func5 (by kernel_rfl)
    (of_decide_eq_true (by kernel_rfl)) (by unfold Func.isWrapper; rw [if_neg (of_decide_eq_false (by kernel_rfl))]; exact ⟨rfl, rfl⟩)
    (fun os started H enc _ => lift_laidG texts_glob (s := Rows.identTextsSpec) (laid := Rows.identTextsRow.laid) (conds := Rows.identTextsRow.domain) started (by kernel_rfl) Tryd.func5
      (ChangeSpec.witness_shaped (enc := enc) (C := Tryd.checked) (os := os) (X := fun w _ => laidMetH Tryd.prog Rows.identTextsRow.laid w) false (World.doorLaid Tryd.prog 400 os) #[.slice none 0 0, .slice none 0 0] 8 rfl (World.shaped_of_RefB (by kernel_rfl) (by kernel_rfl)) (by kernel_rfl) (by kernel_rfl) (by kernel_rfl) (texts_door os _))
      [22, 55] 4 (by rw [Tryd.params5]) (by kernel_rfl) Tryd.underlying4 (by kernel_rfl) rfl
      (fun ds h => by match ds, h with | [d0, d1], _ => rfl) texts_walked)
theorem texts_holds : Rows.IdentTextsCardSaid :=
  Claim7.holds_tied_plain_at .later [] [.data, .data, .data] true (true, "d49c350ad447991527e56bc3a3c696a246ea99d563576b79bf31815c7a3c5b23") true
    texts_said (fun _ h => by cases h) (by kernel_rfl) (fun _ h => by cases h) identTexts_row_tie rfl ⟨rfl, rfl⟩ (by kernel_rfl) rfl
    (fun f fn hf hfn => by
      obtain rfl : f = 5 := Option.some.inj ((show Tryd.prog.funcNamed "gesso/gessolaw11.IdentTexts" = some 5 by kernel_rfl).symm.trans hf) |>.symm
      obtain rfl : fn = Tryd.f5 := (Option.some.inj (Tryd.func5.symm.trans hfn)).symm
      exact ⟨by kernel_rfl, fun j t ht => by
        rw [Tryd.params5] at ht
        have hm : t ∈ [22, 55] := by simpa using Array.mem_of_getElem? ht
        have hall : ([22, 55].all fun u => !Tryd.prog.wantsStandIn u) = true := by kernel_rfl
        exact (show Tryd.prog.wantsStandIn t = false by simpa using List.all_eq_true.1 hall t hm)⟩)
    (by kernel_rfl)
end Go.Proofs.YtaekkjhpdendoaaDoor
