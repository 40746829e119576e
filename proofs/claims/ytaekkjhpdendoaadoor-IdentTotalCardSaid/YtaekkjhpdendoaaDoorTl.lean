/- The law IdentTotal of layer 11 holds: for every three ids the call returns true, and the arguments read afterwards as they read before. No condition. -/
import Derived.Test.YtaekkjhpdendoaaDoorIj
import Derived.Test.YtaekkjhpdendoaaDoorFi
import Derived.Test.YtaekkjhpdendoaaDoorRows
import Derived.Test.YtaekkjhpdendoaaDoorCards
import Derived.Test.YtaekkjhpdendoaaDoorTie
import Derived.Test.YtaekkjhpdendoaaDoorLs
import Derived.SevenTiedAt
import Derived.ProofKit
namespace Go.Proofs.YtaekkjhpdendoaaDoor
set_option linter.unusedVariables false
set_option linter.unusedSimpArgs false
open Go.RowKit
open Go.ChangeShapes Go.WideShapes Go.ChangeAt Go.Joins Go.Deep
set_option maxRecDepth 100000

theorem total_walked : Walked 6 [27, 27, 27] := walked_of fun H enc W base args ds p hA hval => by
  obtain ⟨v0, v1, v2, d0, d1, d2, p0, p1, p2, rfl, rfl, rfl, h0, h1, h2⟩ := trodAll_three hA
  obtain ⟨a0, ok0, rfl⟩ := open_struct 4 idc (fun _ => True) fits_id Tryd.underlying27 (show flatT Tryd.prog 4 27 = some [.int .u64, .int .i64, .int .u64] by kernel_rfl) (hval 0 27 v0 rfl rfl) h0
  obtain ⟨a1, ok1, rfl⟩ := open_struct 4 idc (fun _ => True) fits_id Tryd.underlying27 (show flatT Tryd.prog 4 27 = some [.int .u64, .int .i64, .int .u64] by kernel_rfl) (hval 1 27 v1 rfl rfl) h1
  obtain ⟨a2, ok2, rfl⟩ := open_struct 4 idc (fun _ => True) fits_id Tryd.underlying27 (show flatT Tryd.prog 4 27 = some [.int .u64, .int .i64, .int .u64] by kernel_rfl) (hval 2 27 v2 rfl rfl) h2
  exact ⟨[.val (.agg (idc a0).toArray), .val (.agg (idc a1).toArray), .val (.agg (idc a2).toArray)], (reps_cons (.val _) (reps_cons (.val _) (reps_cons (.val _) reps_nil))), total_d a0 a1 a2⟩
theorem total_door (os : Os) (args : Array Value) : laidMetH Tryd.prog Rows.identTotalRow.laid ((World.doorLaid Tryd.prog 400 os).forCall (fun _ _ => 0) ⟨#[], args, []⟩).memory :=
  laidMetH_of_parts3 (fuel := 8) (laidMet_of_run' 8 (by kernel_rfl) (by kernel_rfl)) (by kernel_rfl) (by kernel_rfl)
theorem total_said : Rows.IdentTotalSaid :=
  OpenClaim.holds_of_wide 6 Tryd.f6 rfl rfl rfl rfl rfl rfl rfl ⟨rfl, rfl, rfl, rfl, rfl⟩ rfl rfl rfl rfl rfl (by kernel_rfl) Tryd.func6 (by kernel_rfl)
    (of_decide_eq_true (by kernel_rfl)) (by unfold Func.isWrapper; rw [if_neg (of_decide_eq_false (by kernel_rfl))]; exact ⟨rfl, rfl⟩)
    (fun os started H enc _ => lift_laid (s := Rows.identTotalSpec) (laid := Rows.identTotalRow.laid) (conds := Rows.identTotalRow.domain) started (by kernel_rfl) Tryd.func6
      (ChangeSpec.witness_shaped (enc := enc) (C := Tryd.checked) (os := os) (X := fun w _ => laidMetH Tryd.prog Rows.identTotalRow.laid w) false (World.doorLaid Tryd.prog 400 os) #[.agg #[.int .u64 0, .int .i64 0, .int .u64 0], .agg #[.int .u64 0, .int .i64 0, .int .u64 0], .agg #[.int .u64 0, .int .i64 0, .int .u64 0]] 8 rfl (World.shaped_of_RefB (by kernel_rfl) (by kernel_rfl)) (by kernel_rfl) (by kernel_rfl) (by kernel_rfl) (total_door os _))
      [27, 27, 27] 4 (by rw [Tryd.params6]) (by kernel_rfl) Tryd.underlying4 (by kernel_rfl) rfl
      (fun ds h => by match ds, h with | [d0, d1, d2], _ => rfl) total_walked)
theorem total_holds : Rows.IdentTotalCardSaid :=
  Claim7.holds_tied_plain_at .later [] [.data, .data, .data] true (true, "d49c350ad447991527e56bc3a3c696a246ea99d563576b79bf31815c7a3c5b23") true
    total_said (fun _ h => by cases h) (by kernel_rfl) (fun _ h => by cases h) identTotal_row_tie rfl ⟨rfl, rfl⟩ (by kernel_rfl) rfl
    (fun f fn hf hfn => by
      obtain rfl : f = 6 := Option.some.inj ((show Tryd.prog.funcNamed "gesso/gessolaw11.IdentTotal" = some 6 by kernel_rfl).symm.trans hf) |>.symm
      obtain rfl : fn = Tryd.f6 := (Option.some.inj (Tryd.func6.symm.trans hfn)).symm
      exact ⟨by kernel_rfl, fun j t ht => by
        rw [Tryd.params6] at ht
        have hm : t ∈ [27, 27, 27] := by simpa using Array.mem_of_getElem? ht
        have hall : ([27, 27, 27].all fun u => !Tryd.prog.wantsStandIn u) = true := by kernel_rfl
        exact (show Tryd.prog.wantsStandIn t = false by simpa using List.all_eq_true.1 hall t hm)⟩)
    (by kernel_rfl)

end Go.Proofs.YtaekkjhpdendoaaDoor
