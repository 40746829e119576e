/- The document's Far -/
import Derived.RegionTactic
import Derived.ChangeAlike
import Derived.Test.YtcfollajmmlfnaaR2
namespace Go.Proofs.Ytcfollajmmlfnaa
open Go.RowKit

/-- the sum of the first k parts -/
def farTo (u v : C4) : Nat → Int
  | 0 => 0
  | 1 => max u.r v.r - min u.r v.r
  | 2 => max u.r v.r - min u.r v.r + (max u.g v.g - min u.g v.g)
  | 3 => max u.r v.r - min u.r v.r + (max u.g v.g - min u.g v.g) + (max u.b v.b - min u.b v.b)
  | _ => max u.r v.r - min u.r v.r + (max u.g v.g - min u.g v.g) + (max u.b v.b - min u.b v.b) + (max u.a v.a - min u.a v.a)

set_option maxHeartbeats 4000000 in
theorem rfar_any (u v : C4) (hu : u.ok) (hv : v.ok) (w : World) :
    Calls Try.prog 17 #[u.val, v.val] w fun e w' => e = .returned (.int .i64 (u.far v)) ∧ Below w.heap.size w w' := by
  have hu' := Lib.hid hu
  have hv' := Lib.hid hv
  have hn := @near_cell (w.heap.size + 1 + 1)
  have far4 := far_four u v
  clear hu hv
  go_enter Try.func17, Try.ntmps17
  go_wp2_with fail
  refine New.wp_region_dep (w.heap.size + 1 + 1) 6 (by kernel_rfl) (by kernel_rfl) (by rfl) (by simp) ?_
  simp only [List.take_succ_cons, List.take_zero, List.drop_succ_cons, List.drop_zero]
  refine New.wpDep_plain (by rfl) (fun K hK => ?_); go_simp; (refine hK _ ?_; clear hK K)
  refine New.wpDep_plain (by rfl) (fun K hK => ?_); go_simp; refine ⟨_, fun n => callsTo_of (parts_any u hu'.out _), ?_⟩; (refine hK _ ?_; clear hK K)
  refine New.wpDep_plain (by rfl) (fun K hK => ?_); go_simp; (refine hK _ ?_; clear hK K)
  refine New.wpDep_plain (by rfl) (fun K hK => ?_); go_simp; refine ⟨_, fun n => callsTo_of (parts_any v hv'.out _), ?_⟩; (refine hK _ ?_; clear hK K)
  refine New.wpDep_make arrNew true (by rfl) (by rfl) arrNew_stays (by rfl) ?_ ?_
  · intro n
    go_simp
    exact arrNew_made n.u
  refine New.wpDep_make arrNew true (by rfl) (by rfl) arrNew_stays (by rfl) ?_ ?_
  · intro n
    go_simp
    exact arrNew_made n.u
  refine New.wpDep_nil ?_
  intro f m hf hap
  obtain ⟨g6, e6, i6⟩ := hf _ (List.mem_cons_self ..)
  obtain ⟨g5, e5, i5⟩ := hf _ (List.mem_cons_of_mem _ (List.mem_cons_self ..))
  have hne : ¬ g5 = g6 := by
    intro e
    refine hap.2 _ (List.mem_cons_of_mem _ (List.mem_cons_self ..)) _ (List.mem_cons_self ..) rfl rfl (by decide) ?_
    dsimp only at e5 e6 ⊢
    rw [e5, e6, e]
  obtain ⟨q6, f6, l6⟩ := hap.1 _ (List.mem_cons_self ..) rfl
  obtain ⟨q5, f5, l5⟩ := hap.1 _ (List.mem_cons_of_mem _ (List.mem_cons_self ..)) rfl
  dsimp only at e5 e6 f5 f6
  rw [e5] at f5
  rw [e6] at f6
  obtain rfl : g5 = q5 := Option.some.inj f5
  obtain rfl : g6 = q6 := Option.some.inj f6
  simp only [World.size_alloc] at l5 l6
  obtain ⟨W2, hW2, j5, j6, hB2⟩ := two_arrays u.r u.g u.b u.a v.r v.g v.b v.a hne (show w.heap.size + 1 + 1 ≤ g5 by omega) (show w.heap.size + 1 + 1 ≤ g6 by omega) i5 i6 m.h
  simp only [put4] at hW2
  have hne' : ¬ g6 = g5 := fun e => hne e.symm
  simp only [New.fillV]
  rw [e5, e6]
  clear e5 e6 f5 f6 hap hf f
  obtain ⟨k5, ⟨a50, a51, a52, a53⟩, z50, z51, z52, z53⟩ := i5
  obtain ⟨k6, ⟨a60, a61, a62, a63⟩, z60, z61, z62, z63⟩ := i6
  obtain ⟨n5, ⟨b50, b51, b52, b53⟩, _⟩ := j5
  obtain ⟨n6, ⟨b60, b61, b62, b63⟩, _⟩ := j6
  obtain ⟨⟨ur0, ur1⟩, ⟨ug0, ug1⟩, ⟨ub0, ub1⟩, ⟨ua0, ua1⟩⟩ := hu'.out
  obtain ⟨⟨vr0, vr1⟩, ⟨vg0, vg1⟩, ⟨vb0, vb1⟩, ⟨va0, va1⟩⟩ := hv'.out
  have F4 := Lib.hid far4
  clear far4
  go_wp2_with fail
  clear hW2 a50 a51 a52 a53 z50 z51 z52 z53 a60 a61 a62 a63 z60 z61 z62 z63
  go_loopw [7, 8, 13] (fun s _ i wr => ∃ k : Nat, k ≤ 4 ∧ i = .int .i64 k ∧ s = .int .i64 (farTo u v k) ∧ Below W2.heap.size W2 wr)
    (fun _ _ i _ => 4 - (intOf i).toNat)
  case atStart => exact ⟨0, by omega, rfl, rfl, Below.refl _ _⟩
  case round =>
    obtain ⟨k, hk, rfl, rfl, hB⟩ := hrel
    have e50 := (hB.cell (p := ⟨g5, 0, none⟩) n5).trans b50
    have e51 := (hB.cell (p := ⟨g5, 1, none⟩) n5).trans b51
    have e52 := (hB.cell (p := ⟨g5, 2, none⟩) n5).trans b52
    have e53 := (hB.cell (p := ⟨g5, 3, none⟩) n5).trans b53
    have e60 := (hB.cell (p := ⟨g6, 0, none⟩) n6).trans b60
    have e61 := (hB.cell (p := ⟨g6, 1, none⟩) n6).trans b61
    have e62 := (hB.cell (p := ⟨g6, 2, none⟩) n6).trans b62
    have e63 := (hB.cell (p := ⟨g6, 3, none⟩) n6).trans b63
    clear b50 b51 b52 b53 b60 b61 b62 b63
    have hsz := hB.size
    by_cases hlt : k < 4
    · have hcases : k = 0 ∨ k = 1 ∨ k = 2 ∨ k = 3 := by omega
      rcases hcases with rfl | rfl | rfl | rfl
      · have hst : farTo u v 1 = farTo u v 0 + (max u.r v.r - min u.r v.r) := by simp [farTo]
        have hbd : 0 ≤ farTo u v 0 ∧ farTo u v 0 ≤ 765 := by constructor <;> simp only [farTo] <;> omega
        generalize farTo u v 0 = s at *
        have HS := Lib.hid hst
        clear hst
        by_cases h : v.r < u.r
        · go_wp2
          go_region
          go_wp2
          go_region
          go_wp2
          go_roundw
          case rel => exact ⟨1, by omega, by go_num, by rw [HS.out]; congr 1; omega, ⟨hB.os, hB.tape, hB.output, hB.size, hB.block⟩⟩
          case measure => simp [intOf]
        · go_wp2
          go_region
          go_wp2
          go_region
          go_wp2
          go_roundw
          case rel => exact ⟨1, by omega, by go_num, by rw [HS.out]; congr 1; omega, ⟨hB.os, hB.tape, hB.output, hB.size, hB.block⟩⟩
          case measure => simp [intOf]
      · have hst : farTo u v 2 = farTo u v 1 + (max u.g v.g - min u.g v.g) := by simp [farTo]
        have hbd : 0 ≤ farTo u v 1 ∧ farTo u v 1 ≤ 765 := by constructor <;> simp only [farTo] <;> omega
        generalize farTo u v 1 = s at *
        have HS := Lib.hid hst
        clear hst
        by_cases h : v.g < u.g
        · go_wp2
          go_region
          go_wp2
          go_region
          go_wp2
          go_roundw
          case rel => exact ⟨2, by omega, by go_num, by rw [HS.out]; congr 1; omega, ⟨hB.os, hB.tape, hB.output, hB.size, hB.block⟩⟩
          case measure => simp [intOf]
        · go_wp2
          go_region
          go_wp2
          go_region
          go_wp2
          go_roundw
          case rel => exact ⟨2, by omega, by go_num, by rw [HS.out]; congr 1; omega, ⟨hB.os, hB.tape, hB.output, hB.size, hB.block⟩⟩
          case measure => simp [intOf]
      · have hst : farTo u v 3 = farTo u v 2 + (max u.b v.b - min u.b v.b) := by simp [farTo]
        have hbd : 0 ≤ farTo u v 2 ∧ farTo u v 2 ≤ 765 := by constructor <;> simp only [farTo] <;> omega
        generalize farTo u v 2 = s at *
        have HS := Lib.hid hst
        clear hst
        by_cases h : v.b < u.b
        · go_wp2
          go_region
          go_wp2
          go_region
          go_wp2
          go_roundw
          case rel => exact ⟨3, by omega, by go_num, by rw [HS.out]; congr 1; omega, ⟨hB.os, hB.tape, hB.output, hB.size, hB.block⟩⟩
          case measure => simp [intOf]
        · go_wp2
          go_region
          go_wp2
          go_region
          go_wp2
          go_roundw
          case rel => exact ⟨3, by omega, by go_num, by rw [HS.out]; congr 1; omega, ⟨hB.os, hB.tape, hB.output, hB.size, hB.block⟩⟩
          case measure => simp [intOf]
      · have hst : farTo u v 4 = farTo u v 3 + (max u.a v.a - min u.a v.a) := by simp [farTo]
        have hbd : 0 ≤ farTo u v 3 ∧ farTo u v 3 ≤ 765 := by constructor <;> simp only [farTo] <;> omega
        generalize farTo u v 3 = s at *
        have HS := Lib.hid hst
        clear hst
        by_cases h : v.a < u.a
        · go_wp2
          go_region
          go_wp2
          go_region
          go_wp2
          go_roundw
          case rel => exact ⟨4, by omega, by go_num, by rw [HS.out]; congr 1; omega, ⟨hB.os, hB.tape, hB.output, hB.size, hB.block⟩⟩
          case measure => simp [intOf]
        · go_wp2
          go_region
          go_wp2
          go_region
          go_wp2
          go_roundw
          case rel => exact ⟨4, by omega, by go_num, by rw [HS.out]; congr 1; omega, ⟨hB.os, hB.tape, hB.output, hB.size, hB.block⟩⟩
          case measure => simp [intOf]
    · obtain rfl : k = 4 := by omega
      go_wp2
      go_ret
      refine ⟨?_, ?_⟩
      · rw [F4.out]; simp [farTo]; omega
      · exact (((Below.refl _ _).alloc (Nat.le_refl _) _).alloc (by simp) _).trans ((hB2.mono (by omega)).trans (hB.mono (by have := hB2.size; simp at this; omega)))
end Go.Proofs.Ytcfollajmmlfnaa
