/- The law IdentBack of layer 11 holds: for every id, and text, the call returns true, and the arguments read afterwards as they read before. No condition. -/
import Derived.Test.YtaekkjhpdendoaaDoorQ4
import Derived.Test.YtaekkjhpdendoaaDoorRows
import Derived.Test.YtaekkjhpdendoaaDoorCards
import Derived.Test.YtaekkjhpdendoaaDoorTie
import Derived.SevenTiedAt
import Derived.ProofKit
namespace Go.Proofs.YtaekkjhpdendoaaDoor
set_option linter.unusedVariables false
set_option linter.unusedSimpArgs false
open Go.RowKit
open Go.ChangeShapes Go.WideShapes Go.ChangeAt Go.Joins Go.Deep
set_option maxRecDepth 100000
theorem back_glob : ∀ W, laidMetH Tryd.prog Rows.identBackRow.laid W → globMet W 0 pow10L := fun W h =>
  glob_of_laid (name := "internal/strconv.uint64pow10") (g := 0) (n := 20) (k := .u64) (zs := (List.range 20).map fun k => ((10 ^ k : Nat) : Int)) (by kernel_rfl) (List.mem_cons_of_mem _ (List.mem_cons_of_mem _ (List.mem_cons_self ..))) (by kernel_rfl) (by kernel_rfl) Tryd.underlying113 Tryd.underlying25 (by kernel_rfl) (by kernel_rfl) h
theorem back_walked : WalkedG 0 pow10L 8 [27, 9] := walked_ofG fun H enc W base args ds p hA hval => by
  obtain ⟨v0, v1, d0, d1, p0, p1, rfl, rfl, rfl, h0, h1⟩ := trodAll_two hA
  obtain ⟨a0, ok0, rfl⟩ := open_struct 4 idc (I3.rng) fits_i3r Tryd.underlying27 (show flatT Tryd.prog 4 27 = some [.int .u64, .int .i64, .int .u64] by kernel_rfl) (hval 0 27 v0 rfl rfl) h0
  obtain ⟨u1, hu1⟩ := okWide_string Tryd.underlying9 (hval 1 9 v1 rfl rfl)
  obtain ⟨a1, ok1, rfl⟩ := open_prim (q := .str) .string (fun s : ByteArray => s.size ≤ maxLen) (fun v h => by obtain ⟨s, rfl, hs⟩ := h; exact ⟨s, hs, rfl⟩) (show flatT Tryd.prog 1 9 = some [.str] by kernel_rfl) ⟨_, hu1, rfl⟩ h1
  exact ⟨[.val (.agg (idc a0).toArray), .val (.string a1)], (reps_cons (.val _) (reps_cons (.val _) reps_nil)), back_s a0 a1 ok0 ok1⟩
theorem back_door (os : Os) (args : Array Value) : laidMetH Tryd.prog Rows.identBackRow.laid ((World.doorLaid Tryd.prog 400 os).forCall (fun _ _ => 0) ⟨#[], args, []⟩).memory :=
  laidMetH_of_parts3 (fuel := 8) (laidMet_of_run' 8 (by kernel_rfl) (by kernel_rfl)) (by kernel_rfl) (by kernel_rfl)
theorem back_said : Rows.IdentBackSaid :=
  OpenClaim.holds_of_wide 8 Tryd.f8 rfl rfl rfl rfl rfl rfl rfl ⟨rfl, rfl, rfl, rfl, rfl⟩ rfl rfl rfl rfl rfl (by kernel_rfl) Tryd.func8 (by kernel_rfl)
    (of_decide_eq_true (by kernel_rfl)) (by unfold Func.isWrapper; rw [if_neg (of_decide_eq_false (by kernel_rfl))]; exact ⟨rfl, rfl⟩)
    (fun os started H enc _ => lift_laidG back_glob (s := Rows.identBackSpec) (laid := Rows.identBackRow.laid) (conds := Rows.identBackRow.domain) started (by kernel_rfl) Tryd.func8
      (ChangeSpec.witness_shaped (enc := enc) (C := Tryd.checked) (os := os) (X := fun w _ => laidMetH Tryd.prog Rows.identBackRow.laid w) false (World.doorLaid Tryd.prog 400 os) #[.agg #[.int .u64 0, .int .i64 0, .int .u64 0], .string ByteArray.empty] 8 rfl (World.shaped_of_RefB (by kernel_rfl) (by kernel_rfl)) (by kernel_rfl) (by kernel_rfl) (by kernel_rfl) (back_door os _))
      [27, 9] 4 (by rw [Tryd.params8]) (by kernel_rfl) Tryd.underlying4 (by kernel_rfl) rfl
      (fun ds h => by match ds, h with | [d0, d1], _ => rfl) back_walked)
theorem back_holds : Rows.IdentBackCardSaid :=
  Claim7.holds_tied_plain_at .later [] [.data, .data, .data] true (true, "d49c350ad447991527e56bc3a3c696a246ea99d563576b79bf31815c7a3c5b23") true
    back_said (fun _ h => by cases h) (by kernel_rfl) (fun _ h => by cases h) identBack_row_tie rfl ⟨rfl, rfl⟩ (by kernel_rfl) rfl
    (fun f fn hf hfn => by
      obtain rfl : f = 8 := Option.some.inj ((show Tryd.prog.funcNamed "gesso/gessolaw11.IdentBack" = some 8 by kernel_rfl).symm.trans hf) |>.symm
      obtain rfl : fn = Tryd.f8 := (Option.some.inj (Tryd.func8.symm.trans hfn)).symm
      exact ⟨by kernel_rfl, fun j t ht => by
        rw [Tryd.params8] at ht
        have hm : t ∈ [27, 9] := by simpa using Array.mem_of_getElem? ht
        have hall : ([27, 9].all fun u => !Tryd.prog.wantsStandIn u) = true := by kernel_rfl
        exact (show Tryd.prog.wantsStandIn t = false by simpa using List.all_eq_true.1 hall t hm)⟩)
    (by kernel_rfl)
end Go.Proofs.YtaekkjhpdendoaaDoor
