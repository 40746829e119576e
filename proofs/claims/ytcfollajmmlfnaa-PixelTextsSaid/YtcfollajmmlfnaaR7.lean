/- The document's Mix -/
import Derived.Test.YtcfollajmmlfnaaR3
import Derived.Test.YtcfollajmmlfnaaArr
namespace Go.Proofs.Ytcfollajmmlfnaa
open Go.RowKit

abbrev i64 (x : Int) : Value := .int .i64 x
def outTo (p : Int) (u v : C4) : Nat → List Value
  | 0 => [i64 0, i64 0, i64 0, i64 0]
  | 1 => [i64 (shareN u.r (255 - p) v.r p), i64 0, i64 0, i64 0]
  | 2 => [i64 (shareN u.r (255 - p) v.r p), i64 (shareN u.g (255 - p) v.g p), i64 0, i64 0]
  | 3 => [i64 (shareN u.r (255 - p) v.r p), i64 (shareN u.g (255 - p) v.g p), i64 (shareN u.b (255 - p) v.b p), i64 0]
  | _ => [i64 (shareN u.r (255 - p) v.r p), i64 (shareN u.g (255 - p) v.g p), i64 (shareN u.b (255 - p) v.b p), i64 (shareN u.a (255 - p) v.a p)]

set_option maxHeartbeats 4000000 in
theorem rmix_any (u v : C4) (p : Int) (hu : u.ok) (hv : v.ok) (hp : Byte p) (w : World) :
    Calls Try.prog 13 #[u.val, v.val, .int .u8 p] w fun e w' => e = .returned (C4.mix p u v).val ∧ Below w.heap.size w w' := by
  have hp' := Lib.hid hp
  clear hp
  have hu' := Lib.hid hu
  have hv' := Lib.hid hv
  have hn := @near_cell (w.heap.size + 1 + 1 + 1)
  clear hu hv
  go_enter Try.func13, Try.ntmps13
  go_wp2_with fail
  refine New.wp_region_dep (w.heap.size + 1 + 1 + 1) 6 (by kernel_rfl) (by kernel_rfl) (by rfl) (by simp) ?_
  simp only [List.take_succ_cons, List.take_zero, List.drop_succ_cons, List.drop_zero]
  refine New.wpDep_plain (by rfl) (fun K hK => ?_); go_simp; (refine hK _ ?_; clear hK K)
  refine New.wpDep_plain (by rfl) (fun K hK => ?_); go_simp; refine ⟨_, fun n => callsTo_of (parts_any u hu'.out _), ?_⟩; (refine hK _ ?_; clear hK K)
  refine New.wpDep_plain (by rfl) (fun K hK => ?_); go_simp; (refine hK _ ?_; clear hK K)
  refine New.wpDep_plain (by rfl) (fun K hK => ?_); go_simp; refine ⟨_, fun n => callsTo_of (parts_any v hv'.out _), ?_⟩; (refine hK _ ?_; clear hK K)
  refine New.wpDep_make arrNew true (by rfl) (by rfl) arrNew_stays (by rfl) ?_ ?_
  · intro n
    go_simp
    exact arrNew_made n.u
  refine New.wpDep_make arrNew true (by rfl) (by rfl) arrNew_stays (by rfl) ?_ ?_
  · intro n
    go_simp
    exact arrNew_made n.u
  refine New.wpDep_nil ?_
  intro f m hf hap
  obtain ⟨g6, e6, i6⟩ := hf _ (List.mem_cons_self ..)
  obtain ⟨g5, e5, i5⟩ := hf _ (List.mem_cons_of_mem _ (List.mem_cons_self ..))
  have hne : ¬ g5 = g6 := by
    intro e
    refine hap.2 _ (List.mem_cons_of_mem _ (List.mem_cons_self ..)) _ (List.mem_cons_self ..) rfl rfl (by decide) ?_
    dsimp only at e5 e6 ⊢
    rw [e5, e6, e]
  obtain ⟨q6, f6, l6⟩ := hap.1 _ (List.mem_cons_self ..) rfl
  obtain ⟨q5, f5, l5⟩ := hap.1 _ (List.mem_cons_of_mem _ (List.mem_cons_self ..)) rfl
  dsimp only at e5 e6 f5 f6
  rw [e5] at f5
  rw [e6] at f6
  obtain rfl : g5 = q5 := Option.some.inj f5
  obtain rfl : g6 = q6 := Option.some.inj f6
  simp only [World.size_alloc] at l5 l6
  obtain ⟨W2, hW2, j5, j6, hB2⟩ := two_arrays u.r u.g u.b u.a v.r v.g v.b v.a hne (show w.heap.size + 1 + 1 + 1 ≤ g5 by omega) (show w.heap.size + 1 + 1 + 1 ≤ g6 by omega) i5 i6 m.h
  simp only [put4] at hW2
  have hne' : ¬ g6 = g5 := fun e => hne e.symm
  simp only [New.fillV]
  rw [e5, e6]
  clear e5 e6 f5 f6 hap hf f
  obtain ⟨k5, ⟨a50, a51, a52, a53⟩, z50, z51, z52, z53⟩ := i5
  obtain ⟨k6, ⟨a60, a61, a62, a63⟩, z60, z61, z62, z63⟩ := i6
  obtain ⟨n5, ⟨b50, b51, b52, b53⟩, _⟩ := j5
  obtain ⟨n6, ⟨b60, b61, b62, b63⟩, _⟩ := j6
  have r0 : W2.cell? ⟨w.heap.size + 1 + 1, 0, none⟩ = some (.int .u8 0) := (hB2.cell (p := ⟨w.heap.size + 1 + 1, 0, none⟩) (by simp)).trans (by simp [go_sem])
  have rz0 : W2.frozen? ⟨w.heap.size + 1 + 1, 0, none⟩ = false := (hB2.frozen (p := ⟨w.heap.size + 1 + 1, 0, none⟩) (by simp)).trans (by simp [go_sem])
  have r1 : W2.cell? ⟨w.heap.size + 1 + 1, 1, none⟩ = some (.int .u8 0) := (hB2.cell (p := ⟨w.heap.size + 1 + 1, 1, none⟩) (by simp)).trans (by simp [go_sem])
  have rz1 : W2.frozen? ⟨w.heap.size + 1 + 1, 1, none⟩ = false := (hB2.frozen (p := ⟨w.heap.size + 1 + 1, 1, none⟩) (by simp)).trans (by simp [go_sem])
  have r2 : W2.cell? ⟨w.heap.size + 1 + 1, 2, none⟩ = some (.int .u8 0) := (hB2.cell (p := ⟨w.heap.size + 1 + 1, 2, none⟩) (by simp)).trans (by simp [go_sem])
  have rz2 : W2.frozen? ⟨w.heap.size + 1 + 1, 2, none⟩ = false := (hB2.frozen (p := ⟨w.heap.size + 1 + 1, 2, none⟩) (by simp)).trans (by simp [go_sem])
  have r3 : W2.cell? ⟨w.heap.size + 1 + 1, 3, none⟩ = some (.int .u8 0) := (hB2.cell (p := ⟨w.heap.size + 1 + 1, 3, none⟩) (by simp)).trans (by simp [go_sem])
  have rz3 : W2.frozen? ⟨w.heap.size + 1 + 1, 3, none⟩ = false := (hB2.frozen (p := ⟨w.heap.size + 1 + 1, 3, none⟩) (by simp)).trans (by simp [go_sem])
  have hW0 : Below w.heap.size w W2 := ((((Below.refl _ _).alloc (Nat.le_refl _) _).alloc (by simp) _).alloc (by simp; omega) _).trans (hB2.mono (by omega))
  have sW : w.heap.size + 1 + 1 < W2.heap.size := World.block_lt_of_cell? _ _ r0
  obtain ⟨ur, ug, ub, ua⟩ := hu'.out
  obtain ⟨vr, vg, vb, va⟩ := hv'.out
  have hpp := hp'.out
  have hq : 0 ≤ 255 - p ∧ 255 - p ≤ 255 := by obtain ⟨x, y⟩ := hpp; omega
  have p0 := mul_bd vr hpp
  have p1 := mul_bd vg hpp
  have p2 := mul_bd vb hpp
  have p3 := mul_bd va hpp
  have t0 := mul_bd ur hq
  have t1 := mul_bd ug hq
  have t2 := mul_bd ub hq
  have t3 := mul_bd ua hq
  obtain ⟨va0, va1⟩ := hpp
  go_wp2_with fail
  clear hW2 hn hne hne' a50 a51 a52 a53 z50 z51 z52 z53 a60 a61 a62 a63 z60 z61 z62 z63
  have hnew := holds_new W2 #[i64 0, i64 0, i64 0, i64 0] 58
  go_loopw [11, 18] (fun _ i wr => ∃ k : Nat, k ≤ 4 ∧ i = .int .i64 k ∧ holds wr W2.heap.size (outTo p u v k) ∧ Below W2.heap.size W2 wr)
    (fun _ i _ => 4 - (intOf i).toNat)
  case atStart => exact ⟨0, by omega, rfl, hnew, (Below.refl _ _).alloc (Nat.le_refl _) _⟩
  case round =>
    obtain ⟨k, hk, rfl, hH, hB⟩ := hrel
    have HH := Lib.hid hH
    have hsz := hB.size
    clear hnew
    by_cases hlt : k < 4
    · have hcases : k = 0 ∨ k = 1 ∨ k = 2 ∨ k = 3 := by omega
      rcases hcases with rfl | rfl | rfl | rfl
      · have e5 := (hB.cell (p := ⟨g5, 0, none⟩) n5).trans b50
        have e6 := (hB.cell (p := ⟨g6, 0, none⟩) n6).trans b60
        have o := hH.cell 0 (by simp [outTo])
        have oz := hH.free 0 (by simp [outTo])
        simp only [outTo] at o
        have o : wr.cell? ⟨W2.heap.size, 0, none⟩ = some (i64 0) := o
        clear hH b50 b51 b52 b53 b60 b61 b62 b63
        go_wp2
        go_region
        go_wp2
        go_roundw
        case rel => exact ⟨1, by omega, by go_num, holds_alike (holds_set HH.out 0 (by simp [outTo]) _) rfl, Below.trans (hB.setCell (Nat.le_refl _) _) ⟨rfl, rfl, rfl, Nat.le_refl _, fun _ _ => rfl⟩⟩
        case measure => simp [intOf]
      · have e5 := (hB.cell (p := ⟨g5, 1, none⟩) n5).trans b51
        have e6 := (hB.cell (p := ⟨g6, 1, none⟩) n6).trans b61
        have o := hH.cell 1 (by simp [outTo])
        have oz := hH.free 1 (by simp [outTo])
        simp only [outTo] at o
        have o : wr.cell? ⟨W2.heap.size, 1, none⟩ = some (i64 0) := o
        clear hH b50 b51 b52 b53 b60 b61 b62 b63
        go_wp2
        go_region
        go_wp2
        go_roundw
        case rel => exact ⟨2, by omega, by go_num, holds_alike (holds_set HH.out 1 (by simp [outTo]) _) rfl, Below.trans (hB.setCell (Nat.le_refl _) _) ⟨rfl, rfl, rfl, Nat.le_refl _, fun _ _ => rfl⟩⟩
        case measure => simp [intOf]
      · have e5 := (hB.cell (p := ⟨g5, 2, none⟩) n5).trans b52
        have e6 := (hB.cell (p := ⟨g6, 2, none⟩) n6).trans b62
        have o := hH.cell 2 (by simp [outTo])
        have oz := hH.free 2 (by simp [outTo])
        simp only [outTo] at o
        have o : wr.cell? ⟨W2.heap.size, 2, none⟩ = some (i64 0) := o
        clear hH b50 b51 b52 b53 b60 b61 b62 b63
        go_wp2
        go_region
        go_wp2
        go_roundw
        case rel => exact ⟨3, by omega, by go_num, holds_alike (holds_set HH.out 2 (by simp [outTo]) _) rfl, Below.trans (hB.setCell (Nat.le_refl _) _) ⟨rfl, rfl, rfl, Nat.le_refl _, fun _ _ => rfl⟩⟩
        case measure => simp [intOf]
      · have e5 := (hB.cell (p := ⟨g5, 3, none⟩) n5).trans b53
        have e6 := (hB.cell (p := ⟨g6, 3, none⟩) n6).trans b63
        have o := hH.cell 3 (by simp [outTo])
        have oz := hH.free 3 (by simp [outTo])
        simp only [outTo] at o
        have o : wr.cell? ⟨W2.heap.size, 3, none⟩ = some (i64 0) := o
        clear hH b50 b51 b52 b53 b60 b61 b62 b63
        go_wp2
        go_region
        go_wp2
        go_roundw
        case rel => exact ⟨4, by omega, by go_num, holds_alike (holds_set HH.out 3 (by simp [outTo]) _) rfl, Below.trans (hB.setCell (Nat.le_refl _) _) ⟨rfl, rfl, rfl, Nat.le_refl _, fun _ _ => rfl⟩⟩
        case measure => simp [intOf]
    · obtain rfl : k = 4 := by omega
      have s0 := (hB.cell (p := ⟨w.heap.size + 1 + 1, 0, none⟩) sW).trans r0
      have o0 := hH.cell 0 (by simp [outTo])
      have o1 := hH.cell 1 (by simp [outTo])
      have o2 := hH.cell 2 (by simp [outTo])
      have o3 := hH.cell 3 (by simp [outTo])
      simp only [outTo] at o0 o1 o2 o3
      have o0 : wr.cell? ⟨W2.heap.size, 0, none⟩ = some (i64 (shareN u.r (255 - p) v.r p)) := o0
      have o1 : wr.cell? ⟨W2.heap.size, 1, none⟩ = some (i64 (shareN u.g (255 - p) v.g p)) := o1
      have o2 : wr.cell? ⟨W2.heap.size, 2, none⟩ = some (i64 (shareN u.b (255 - p) v.b p)) := o2
      have o3 : wr.cell? ⟨W2.heap.size, 3, none⟩ = some (i64 (shareN u.a (255 - p) v.a p)) := o3
      clear hH
      go_wp2_with fail
      refine (of_any _ _ _ _ _).mono ?_
      rintro e w3 ⟨rfl, hB3⟩
      have hB4 := hB.trans (hB3.mono hsz)
      have c0 := (hB4.cell (p := ⟨w.heap.size + 1 + 1, 0, none⟩) sW).trans r0
      have cz0 := (hB4.frozen (p := ⟨w.heap.size + 1 + 1, 0, none⟩) sW).trans rz0
      have c1 := (hB4.cell (p := ⟨w.heap.size + 1 + 1, 1, none⟩) sW).trans r1
      have cz1 := (hB4.frozen (p := ⟨w.heap.size + 1 + 1, 1, none⟩) sW).trans rz1
      have c2 := (hB4.cell (p := ⟨w.heap.size + 1 + 1, 2, none⟩) sW).trans r2
      have cz2 := (hB4.frozen (p := ⟨w.heap.size + 1 + 1, 2, none⟩) sW).trans rz2
      have c3 := (hB4.cell (p := ⟨w.heap.size + 1 + 1, 3, none⟩) sW).trans r3
      have cz3 := (hB4.frozen (p := ⟨w.heap.size + 1 + 1, 3, none⟩) sW).trans rz3
      clear r0 r1 r2 r3 rz0 rz1 rz2 rz3 s0 o0 o1 o2 o3 b50 b51 b52 b53 b60 b61 b62 b63
      have s3 := hB4.size
      have sW3 : w.heap.size + 1 + 1 < w3.heap.size := by omega
      go_wp2
      refine bodyPost_ret (v := (C4.mix p u v).val) ?_ rfl ⟨rfl, ?_⟩
      · simp [results, Try.results13, go_sem, c0, c1, c2, c3]
        refine ⟨by simp [C4.mix, mixF], by simp [C4.mix, mixF], by simp [C4.mix, mixF], by simp [C4.mix, mixF]⟩
      · refine Below.setCell (Below.setCell (Below.setCell (Below.setCell ?_ (by dsimp only; omega) _) (by dsimp only; omega) _) (by dsimp only; omega) _) (by dsimp only; omega) _
        exact hW0.trans (hB4.mono (by omega))
end Go.Proofs.Ytcfollajmmlfnaa
