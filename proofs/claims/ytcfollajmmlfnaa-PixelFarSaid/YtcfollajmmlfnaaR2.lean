/- The document's Over -/
import Derived.Test.YtcfollajmmlfnaaR1
import Derived.Test.YtcfollajmmlfnaaDep2
namespace Go.Proofs.Ytcfollajmmlfnaa
open Go.RowKit

/-- an array of four numbers lies in a block of its own -/
def arrIn (w : World) (b : Nat) (x y z u : Int) : Prop :=
  b < w.heap.size ∧ (w.cell? ⟨b, 0, none⟩ = some (.int .i64 x) ∧ w.cell? ⟨b, 1, none⟩ = some (.int .i64 y) ∧ w.cell? ⟨b, 2, none⟩ = some (.int .i64 z) ∧ w.cell? ⟨b, 3, none⟩ = some (.int .i64 u)) ∧
  w.frozen? ⟨b, 0, none⟩ = false ∧ w.frozen? ⟨b, 1, none⟩ = false ∧ w.frozen? ⟨b, 2, none⟩ = false ∧ w.frozen? ⟨b, 3, none⟩ = false
/-- a new array -/
def arrNew (v : Value) (w : World) : Prop := ∃ g, v = .pointer (some ⟨g, 0, none⟩) ∧ arrIn w g 0 0 0 0
theorem arrIn_below {w w' : World} {g : Nat} {x y z u : Int} (h : arrIn w g x y z u) (hb : Below w.heap.size w w') : arrIn w' g x y z u := by
  obtain ⟨hg, ⟨h0, h1, h2, h3⟩, z0, z1, z2, z3⟩ := h
  exact ⟨Nat.lt_of_lt_of_le hg hb.size, ⟨(hb.cell (p := ⟨g, 0, none⟩) hg).trans h0, (hb.cell (p := ⟨g, 1, none⟩) hg).trans h1, (hb.cell (p := ⟨g, 2, none⟩) hg).trans h2, (hb.cell (p := ⟨g, 3, none⟩) hg).trans h3⟩,
    (hb.frozen (p := ⟨g, 0, none⟩) hg).trans z0, (hb.frozen (p := ⟨g, 1, none⟩) hg).trans z1, (hb.frozen (p := ⟨g, 2, none⟩) hg).trans z2, (hb.frozen (p := ⟨g, 3, none⟩) hg).trans z3⟩
theorem arrNew_stays (v : Value) : Stays (arrNew v) := by
  rintro w w' hb ⟨g, rfl, h⟩
  exact ⟨g, rfl, arrIn_below h hb⟩
theorem arrNew_made (w : World) : Below w.heap.size w (w.alloc (.cells #[.int .i64 0, .int .i64 0, .int .i64 0, .int .i64 0] 58)) ∧
    arrNew (.pointer (some ⟨w.heap.size, 0, none⟩)) (w.alloc (.cells #[.int .i64 0, .int .i64 0, .int .i64 0, .int .i64 0] 58)) ∧
    New.Newly w (w.alloc (.cells #[.int .i64 0, .int .i64 0, .int .i64 0, .int .i64 0] 58)) (.pointer (some ⟨w.heap.size, 0, none⟩)) := by
  refine ⟨(Below.refl _ _).alloc (Nat.le_refl _) _, ⟨w.heap.size, rfl, by simp, ⟨?_, ?_, ?_, ?_⟩, ?_, ?_, ?_, ?_⟩, ⟨w.heap.size, rfl, Nat.le_refl _, by simp⟩⟩ <;> simp [go_sem]

/-- the world behind a store of four numbers -/
def put4 (w : World) (b : Nat) (x y z u : Int) : World := (((w.setCell ⟨b, 0, none⟩ (.int .i64 x)).setCell ⟨b, 1, none⟩ (.int .i64 y)).setCell ⟨b, 2, none⟩ (.int .i64 z)).setCell ⟨b, 3, none⟩ (.int .i64 u)
theorem put4_in {w : World} {b : Nat} (x y z u : Int) {x0 y0 z0 u0 : Int} (h : arrIn w b x0 y0 z0 u0) : arrIn (put4 w b x y z u) b x y z u := by
  obtain ⟨hg, ⟨h0, h1, h2, h3⟩, z0, z1, z2, z3⟩ := h
  unfold put4
  refine ⟨by simp; omega, ⟨?_, ?_, ?_, ?_⟩, ?_, ?_, ?_, ?_⟩
  all_goals simp [go_sem, *]
theorem put4_other {w : World} {b c : Nat} (x y z u : Int) {x0 y0 z0 u0 : Int} (h : arrIn w c x0 y0 z0 u0) (hne : ¬ b = c) : arrIn (put4 w b x y z u) c x0 y0 z0 u0 := by
  obtain ⟨hg, ⟨h0, h1, h2, h3⟩, z0, z1, z2, z3⟩ := h
  have hne' : ¬ c = b := fun e => hne e.symm
  unfold put4
  refine ⟨by simp; omega, ⟨?_, ?_, ?_, ?_⟩, ?_, ?_, ?_, ?_⟩
  all_goals simp [go_sem, *]
theorem put4_below {B : Nat} {a w : World} {b : Nat} (x y z u : Int) (h : Below B a w) (hb : B ≤ b) : Below B a (put4 w b x y z u) :=
  (((h.setCell (p := ⟨b, 0, none⟩) hb _).setCell (p := ⟨b, 1, none⟩) hb _).setCell (p := ⟨b, 2, none⟩) hb _).setCell (p := ⟨b, 3, none⟩) hb _

/-- two new arrays, filled -/
theorem two_arrays {a W : World} {B g5 g6 : Nat} (x0 x1 x2 x3 y0 y1 y2 y3 : Int) (hne : ¬ g5 = g6) (h5 : B ≤ g5) (h6 : B ≤ g6) (i5 : arrIn W g5 0 0 0 0) (i6 : arrIn W g6 0 0 0 0) (hB : Below B a W) :
    ∃ W2, put4 (put4 W g5 x0 x1 x2 x3) g6 y0 y1 y2 y3 = W2 ∧ arrIn W2 g5 x0 x1 x2 x3 ∧ arrIn W2 g6 y0 y1 y2 y3 ∧ Below B a W2 :=
  ⟨_, rfl, put4_other _ _ _ _ (put4_in _ _ _ _ i5) (fun e => hne e.symm), put4_in _ _ _ _ (put4_other _ _ _ _ i6 hne), put4_below _ _ _ _ (put4_below _ _ _ _ hB h5) h6⟩

set_option maxHeartbeats 4000000 in
theorem rover_any (u v : C4) (hu : u.ok) (hv : v.ok) (w : World) :
    Calls Try.prog 11 #[u.val, v.val] w fun e w' => e = .returned (u.over v).val ∧ Below w.heap.size w w' := by
  have hu' := Lib.hid hu
  have hv' := Lib.hid hv
  have hn := @near_cell (w.heap.size + 1 + 1 + 1)
  clear hu hv
  go_enter Try.func11, Try.ntmps11
  go_wp2_with fail
  refine New.wp_region_dep (w.heap.size + 1 + 1 + 1) 6 (by kernel_rfl) (by kernel_rfl) (by rfl) (by simp) ?_
  simp only [List.take_succ_cons, List.take_zero, List.drop_succ_cons, List.drop_zero]
  refine New.wpDep_plain (by rfl) (fun K hK => ?_); go_simp; (refine hK _ ?_; clear hK K)
  refine New.wpDep_plain (by rfl) (fun K hK => ?_); go_simp; refine ⟨_, fun n => callsTo_of (parts_any u hu'.out _), ?_⟩; (refine hK _ ?_; clear hK K)
  refine New.wpDep_plain (by rfl) (fun K hK => ?_); go_simp; (refine hK _ ?_; clear hK K)
  refine New.wpDep_plain (by rfl) (fun K hK => ?_); go_simp; refine ⟨_, fun n => callsTo_of (parts_any v hv'.out _), ?_⟩; (refine hK _ ?_; clear hK K)
  refine New.wpDep_make arrNew true (by rfl) (by rfl) arrNew_stays (by rfl) ?_ ?_
  · intro n
    go_simp
    exact arrNew_made n.u
  refine New.wpDep_make arrNew true (by rfl) (by rfl) arrNew_stays (by rfl) ?_ ?_
  · intro n
    go_simp
    exact arrNew_made n.u
  refine New.wpDep_nil ?_
  intro f m hf hap
  obtain ⟨g6, e6, i6⟩ := hf _ (List.mem_cons_self ..)
  obtain ⟨g5, e5, i5⟩ := hf _ (List.mem_cons_of_mem _ (List.mem_cons_self ..))
  have hne : ¬ g5 = g6 := by
    intro e
    refine hap.2 _ (List.mem_cons_of_mem _ (List.mem_cons_self ..)) _ (List.mem_cons_self ..) rfl rfl (by decide) ?_
    dsimp only at e5 e6 ⊢
    rw [e5, e6, e]
  obtain ⟨q6, f6, l6⟩ := hap.1 _ (List.mem_cons_self ..) rfl
  obtain ⟨q5, f5, l5⟩ := hap.1 _ (List.mem_cons_of_mem _ (List.mem_cons_self ..)) rfl
  dsimp only at e5 e6 f5 f6
  rw [e5] at f5
  rw [e6] at f6
  obtain rfl : g5 = q5 := Option.some.inj f5
  obtain rfl : g6 = q6 := Option.some.inj f6
  simp only [World.size_alloc] at l5 l6
  obtain ⟨W2, hW2, j5, j6, hB2⟩ := two_arrays u.r u.g u.b u.a v.r v.g v.b v.a hne (show w.heap.size + 1 + 1 + 1 ≤ g5 by omega) (show w.heap.size + 1 + 1 + 1 ≤ g6 by omega) i5 i6 m.h
  simp only [put4] at hW2
  have hne' : ¬ g6 = g5 := fun e => hne e.symm
  simp only [New.fillV]
  rw [e5, e6]
  clear e5 e6 f5 f6 hap hf f
  obtain ⟨k5, ⟨a50, a51, a52, a53⟩, z50, z51, z52, z53⟩ := i5
  obtain ⟨k6, ⟨a60, a61, a62, a63⟩, z60, z61, z62, z63⟩ := i6
  obtain ⟨n5, ⟨b50, b51, b52, b53⟩, _⟩ := j5
  obtain ⟨n6, ⟨b60, b61, b62, b63⟩, _⟩ := j6
  have r0 : W2.cell? ⟨w.heap.size + 1 + 1, 0, none⟩ = some (.int .u8 0) := (hB2.cell (p := ⟨w.heap.size + 1 + 1, 0, none⟩) (by simp)).trans (by simp [go_sem])
  have rz0 : W2.frozen? ⟨w.heap.size + 1 + 1, 0, none⟩ = false := (hB2.frozen (p := ⟨w.heap.size + 1 + 1, 0, none⟩) (by simp)).trans (by simp [go_sem])
  have r1 : W2.cell? ⟨w.heap.size + 1 + 1, 1, none⟩ = some (.int .u8 0) := (hB2.cell (p := ⟨w.heap.size + 1 + 1, 1, none⟩) (by simp)).trans (by simp [go_sem])
  have rz1 : W2.frozen? ⟨w.heap.size + 1 + 1, 1, none⟩ = false := (hB2.frozen (p := ⟨w.heap.size + 1 + 1, 1, none⟩) (by simp)).trans (by simp [go_sem])
  have r2 : W2.cell? ⟨w.heap.size + 1 + 1, 2, none⟩ = some (.int .u8 0) := (hB2.cell (p := ⟨w.heap.size + 1 + 1, 2, none⟩) (by simp)).trans (by simp [go_sem])
  have rz2 : W2.frozen? ⟨w.heap.size + 1 + 1, 2, none⟩ = false := (hB2.frozen (p := ⟨w.heap.size + 1 + 1, 2, none⟩) (by simp)).trans (by simp [go_sem])
  have r3 : W2.cell? ⟨w.heap.size + 1 + 1, 3, none⟩ = some (.int .u8 0) := (hB2.cell (p := ⟨w.heap.size + 1 + 1, 3, none⟩) (by simp)).trans (by simp [go_sem])
  have rz3 : W2.frozen? ⟨w.heap.size + 1 + 1, 3, none⟩ = false := (hB2.frozen (p := ⟨w.heap.size + 1 + 1, 3, none⟩) (by simp)).trans (by simp [go_sem])
  obtain ⟨ur, ug, ub, ua⟩ := hu'.out
  obtain ⟨vr, vg, vb, va⟩ := hv'.out
  have va' : 0 ≤ 255 - v.a ∧ 255 - v.a ≤ 255 := by obtain ⟨x, y⟩ := va; omega
  have p0 := mul_bd vr va
  have p1 := mul_bd vg va
  have p2 := mul_bd vb va
  have t0 := mul_bd ur va'
  have t1 := mul_bd ug va'
  have t2 := mul_bd ub va'
  have t3 := mul_bd ua va'
  obtain ⟨va0, va1⟩ := va
  have sW : w.heap.size + 1 + 1 < W2.heap.size := World.block_lt_of_cell? _ _ r0
  go_wp2_with fail
  refine (of_any _ _ _ _ _).mono ?_
  rintro e w3 ⟨rfl, hB3⟩
  have r0 := (hB3.cell (p := ⟨w.heap.size + 1 + 1, 0, none⟩) sW).trans r0
  have rz0 := (hB3.frozen (p := ⟨w.heap.size + 1 + 1, 0, none⟩) sW).trans rz0
  have r1 := (hB3.cell (p := ⟨w.heap.size + 1 + 1, 1, none⟩) sW).trans r1
  have rz1 := (hB3.frozen (p := ⟨w.heap.size + 1 + 1, 1, none⟩) sW).trans rz1
  have r2 := (hB3.cell (p := ⟨w.heap.size + 1 + 1, 2, none⟩) sW).trans r2
  have rz2 := (hB3.frozen (p := ⟨w.heap.size + 1 + 1, 2, none⟩) sW).trans rz2
  have r3 := (hB3.cell (p := ⟨w.heap.size + 1 + 1, 3, none⟩) sW).trans r3
  have rz3 := (hB3.frozen (p := ⟨w.heap.size + 1 + 1, 3, none⟩) sW).trans rz3
  have s3 := hB3.size
  have sW3 : w.heap.size + 1 + 1 < w3.heap.size := by omega
  clear hW2 a50 a51 a52 a53 z50 z51 z52 z53 a60 a61 a62 a63 z60 z61 z62 z63
  go_wp2
  refine bodyPost_ret (v := (u.over v).val) ?_ rfl ⟨rfl, ?_⟩
  · simp [results, Try.results11, go_sem, *]
    refine ⟨by simp [C4.over, coverF, shareN], by simp [C4.over, coverF, shareN], by simp [C4.over, coverF, shareN], by simp [C4.over, coverF, shareN]⟩
  · refine Below.setCell (Below.setCell (Below.setCell (Below.setCell ?_ (by dsimp only; omega) _) (by dsimp only; omega) _) (by dsimp only; omega) _) (by dsimp only; omega) _
    exact ((((Below.refl _ _).alloc (Nat.le_refl _) _).alloc (by simp) _).alloc (by simp; omega) _).trans ((hB2.mono (by omega)).trans (hB3.mono (by omega)))
end Go.Proofs.Ytcfollajmmlfnaa
