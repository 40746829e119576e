/- The layer does something: wakes. -/
import Derived.Test.YtjpgabpicfcapaaV16a
namespace Go.Proofs.Ytjpgabpicfcapaa
open Go.RowKit

set_option maxRecDepth 4000 in
set_option maxHeartbeats 1000000 in
theorem wakes_any (w : World) :
    Calls Try.prog 7 #[] w fun e w' => e = .returned (.bool true) ∧ Below w.heap.size w w' := by
  go_enter Try.func7, Try.ntmps7
  go_wp2_with fail
  rename_i K hK
  have hb0 : vecIn ((w.alloc (.cells #[.int .u64 0, .int .u64 2, .int .u64 3, .int .u64 0, .int .u64 0, .int .u64 0, .int .u64 0, .int .u64 0, .int .u64 0] 24)).alloc (.cells #[.int .u64 0, .int .u64 5, .int .u64 0, .int .u64 0, .int .u64 0, .int .u64 0, .int .u64 0, .int .u64 0, .int .u64 0] 24)) (w.heap.size + 1) vB := by
    have := vecIn_new (w.alloc (.cells #[.int .u64 0, .int .u64 2, .int .u64 3, .int .u64 0, .int .u64 0, .int .u64 0, .int .u64 0, .int .u64 0, .int .u64 0] 24)) vB
    rwa [World.size_alloc] at this
  refine name_world (G := fun W => Code.wp _ _ _ _ W) (fun W => Facts [(w.heap.size, vA), (w.heap.size + 1, vB)] W ∧ Below w.heap.size w W)
    ⟨Facts.cons (Facts.cons (fun p hp => by cases hp) hb0) (holds_alloc (vecIn_new w vA) _), ((Below.refl _ _).alloc (Nat.le_refl _) _).alloc (by simp) _⟩ ?_
  clear hb0
  rintro w1 ⟨hF, hB⟩
  obtain ⟨c0, c1, c2, c3, c4, c5, c6, c7, c8⟩ := vecIn.litA (hF.first)
  have la := (hF.first).lt
  have HF := Lib.hid hF
  have HB := Lib.hid hB
  clear hF hB
  have hna := fun (n : Near w1.heap.size w1) (k : Nat) => near_cell w1.heap.size n w.heap.size k la
  refine Late.wp_region_dep w1.heap.size 9 7 (by kernel_rfl) (by kernel_rfl) (by rfl) (Nat.le_refl _) ?_ ?_ ?_
  · intro o ho; cases ho; exact pure_extract rfl
  · intro c a d v w h; cases d <;> exact h
  simp only [List.take_succ_cons, List.take_zero, List.drop_succ_cons, List.drop_zero]
  refine wpDep_plain (by rfl) (fun K hK => ?_); go_simp; (refine hK _ ?_; clear hK K)
  refine wpDep_plain (by rfl) (fun K hK => ?_); go_simp; refine ⟨_, fun n => callsTo_of (id_any 1 3 _), ?_⟩; (refine hK _ ?_; clear hK K)
  refine wpDep_plain (by rfl) (fun K hK => ?_); go_simp; refine ⟨_, fun n => callsTo_of (id_any 2 4 _), ?_⟩; (refine hK _ ?_; clear hK K)
  refine wpDep_make (isId 2 #[.int .u64 9, .int .i64 1, .int .u64 3, .int .u64 9, .int .i64 2, .int .u64 4]) (by rfl) (by rfl) (isId_stays _ _) (by rfl) ?_ ?_
  · intro n
    have hr := blockIs_new n.u #[.int .u64 9, .int .i64 1, .int .u64 3, .int .u64 9, .int .i64 2, .int .u64 4] 29
    go_simp
    first | exact ⟨(Below.refl _ _).alloc (Nat.le_refl _) _, _, rfl, hr⟩ | exact ⟨_, rfl, hr⟩
  refine wpDep_use (t := 18) (List.mem_cons_self ..) (by rfl) (show 18 < 103 by decide) (by rfl) (.tuple #[.agg #[.int .u64 0, .int .u64 3, .int .u64 4, .int .u64 0, .int .u64 0, .int .u64 0, .int .u64 0, .int .u64 0, .int .u64 0], .int .i64 0]) ?_ ?_
  · rintro x n ⟨g, rfl, h⟩
    go_simp
    exact callsTo_of (k_with_a n.u g h)
  refine wpDep_plain (by rfl) (fun K hK => ?_); go_simp; (refine hK _ ?_; clear hK K)
  refine wpDep_plain (by rfl) (fun K hK => ?_); go_simp; (refine hK _ ?_; clear hK K)
  refine wpDep_plain (by rfl) (fun K hK => ?_); go_simp; (refine hK _ ?_; clear hK K)
  refine wpDep_make (isNew w1.heap.size) (by rfl) (by rfl) (isNew_stays _) (by rfl) ?_ ?_
  · intro n
    have hr := vecIn_new n.u V.zero
    have hs := n.h.size
    go_simp
    first | exact ⟨(Below.refl _ _).alloc (Nat.le_refl _) _, _, rfl, hs, hr⟩ | exact ⟨_, rfl, hs, hr⟩
  refine wpDep_nil ?_
  intro f m hh
  clear hna
  obtain ⟨g3, hg, hge, hv⟩ := hh ⟨3, isNew w1.heap.size⟩ (List.mem_cons_self ..)
  simp only [fillV]
  dsimp only at hg
  simp only [hg]
  clear hh hg
  obtain ⟨z0, z1, z2, z3, z4, z5, z6, z7, z8⟩ := vecIn.lit0 (hv)
  have y0 := hv.free 0 (by omega)
  have y1 := hv.free 1 (by omega)
  have y2 := hv.free 2 (by omega)
  have y3 := hv.free 3 (by omega)
  have y4 := hv.free 4 (by omega)
  have y5 := hv.free 5 (by omega)
  have y6 := hv.free 6 (by omega)
  have y7 := hv.free 7 (by omega)
  have y8 := hv.free 8 (by omega)
  have HV := Lib.hid hv
  have HG := Lib.hid hge
  clear hv hge la
  clear c0 c1 c2 c3 c4 c5 c6 c7 c8
  go_wp2_with fail
  rename_i K hK
  clear z0 z1 z2 z3 z4 z5 z6 z7 z8 y0 y1 y2 y3 y4 y5 y6 y7 y8
  refine name_world (G := fun W => Code.wp _ _ _ _ W) (fun W => Facts ((g3, vW) :: [(w.heap.size, vA), (w.heap.size + 1, vB)]) W ∧ Below w.heap.size w W)
    ⟨Facts.cons (Facts.keep HF.out (W' := _) ((((((((((m.h.setCell (p := ⟨g3, 0, none⟩) HG.out _).setCell (p := ⟨g3, 1, none⟩) HG.out _).setCell (p := ⟨g3, 2, none⟩) HG.out _).setCell (p := ⟨g3, 3, none⟩) HG.out _).setCell (p := ⟨g3, 4, none⟩) HG.out _).setCell (p := ⟨g3, 5, none⟩) HG.out _).setCell (p := ⟨g3, 6, none⟩) HG.out _).setCell (p := ⟨g3, 7, none⟩) HG.out _).setCell (p := ⟨g3, 8, none⟩) HG.out _))) (vecIn_put HV.out vW), HB.out.trans (((((((((((m.h.setCell (p := ⟨g3, 0, none⟩) HG.out _).setCell (p := ⟨g3, 1, none⟩) HG.out _).setCell (p := ⟨g3, 2, none⟩) HG.out _).setCell (p := ⟨g3, 3, none⟩) HG.out _).setCell (p := ⟨g3, 4, none⟩) HG.out _).setCell (p := ⟨g3, 5, none⟩) HG.out _).setCell (p := ⟨g3, 6, none⟩) HG.out _).setCell (p := ⟨g3, 7, none⟩) HG.out _).setCell (p := ⟨g3, 8, none⟩) HG.out _)).mono HB.out.size)⟩ ?_
  clear HF HB HV HG
  clear m
  rintro w2 ⟨hF, hB⟩
  obtain ⟨c0, c1, c2, c3, c4, c5, c6, c7, c8⟩ := vecIn.litA (hF.rest.first)
  have la := (hF.rest.first).lt
  have HF := Lib.hid hF
  have HB := Lib.hid hB
  clear hF hB
  have hna := fun (n : Near w2.heap.size w2) (k : Nat) => near_cell w2.heap.size n w.heap.size k la
  refine Late.wp_region_dep w2.heap.size 8 6 (by kernel_rfl) (by kernel_rfl) (by rfl) (Nat.le_refl _) ?_ ?_ ?_
  · intro o ho; cases ho; exact pure_extract rfl
  · intro c a d v w h; cases d <;> exact h
  simp only [List.take_succ_cons, List.take_zero, List.drop_succ_cons, List.drop_zero]
  refine wpDep_plain (by rfl) (fun K hK => ?_); go_simp; (refine hK _ ?_; clear hK K)
  refine wpDep_plain (by rfl) (fun K hK => ?_); go_simp; refine ⟨_, fun n => callsTo_of (id_any 1 4 _), ?_⟩; (refine hK _ ?_; clear hK K)
  refine wpDep_make (isId 1 #[.int .u64 9, .int .i64 1, .int .u64 4]) (by rfl) (by rfl) (isId_stays _ _) (by rfl) ?_ ?_
  · intro n
    have hr := blockIs_new n.u #[.int .u64 9, .int .i64 1, .int .u64 4] 29
    go_simp
    first | exact ⟨(Below.refl _ _).alloc (Nat.le_refl _) _, _, rfl, hr⟩ | exact ⟨_, rfl, hr⟩
  refine wpDep_use (t := 25) (List.mem_cons_self ..) (by rfl) (show 25 < 103 by decide) (by rfl) (.tuple #[.agg #[.int .u64 0, .int .u64 0, .int .u64 0, .int .u64 0, .int .u64 0, .int .u64 0, .int .u64 0, .int .u64 0, .int .u64 0], .int .i64 231]) ?_ ?_
  · rintro x n ⟨g, rfl, h⟩
    go_simp
    exact callsTo_of (k_with_b n.u g h)
  refine wpDep_plain (by rfl) (fun K hK => ?_); go_simp; (refine hK _ ?_; clear hK K)
  refine wpDep_plain (by rfl) (fun K hK => ?_); go_simp; (refine hK _ ?_; clear hK K)
  refine wpDep_plain (by rfl) (fun K hK => ?_); go_simp; (refine hK _ ?_; clear hK K)
  refine wpDep_make (isNew w2.heap.size) (by rfl) (by rfl) (isNew_stays _) (by rfl) ?_ ?_
  · intro n
    have hr := vecIn_new n.u V.zero
    have hs := n.h.size
    go_simp
    first | exact ⟨(Below.refl _ _).alloc (Nat.le_refl _) _, _, rfl, hs, hr⟩ | exact ⟨_, rfl, hs, hr⟩
  refine wpDep_nil ?_
  intro f m hh
  clear hna
  obtain ⟨g5, hg, hge, hv⟩ := hh ⟨5, isNew w2.heap.size⟩ (List.mem_cons_self ..)
  simp only [fillV]
  dsimp only at hg
  simp only [hg]
  clear hh hg
  obtain ⟨z0, z1, z2, z3, z4, z5, z6, z7, z8⟩ := vecIn.lit0 (hv)
  have y0 := hv.free 0 (by omega)
  have y1 := hv.free 1 (by omega)
  have y2 := hv.free 2 (by omega)
  have y3 := hv.free 3 (by omega)
  have y4 := hv.free 4 (by omega)
  have y5 := hv.free 5 (by omega)
  have y6 := hv.free 6 (by omega)
  have y7 := hv.free 7 (by omega)
  have y8 := hv.free 8 (by omega)
  have HV := Lib.hid hv
  have HG := Lib.hid hge
  clear hv hge la
  clear c0 c1 c2 c3 c4 c5 c6 c7 c8
  go_upto_region 4 with (fail)
  rename_i K hK
  clear z0 z1 z2 z3 z4 z5 z6 z7 z8 y0 y1 y2 y3 y4 y5 y6 y7 y8
  refine name_world (G := fun W => Code.wp _ _ _ _ W) (fun W => Facts ((g5, V.zero) :: ((g3, vW) :: [(w.heap.size, vA), (w.heap.size + 1, vB)])) W ∧ Below w.heap.size w W)
    ⟨Facts.cons (Facts.keep HF.out (W' := _) ((((((((((m.h.setCell (p := ⟨g5, 0, none⟩) HG.out _).setCell (p := ⟨g5, 1, none⟩) HG.out _).setCell (p := ⟨g5, 2, none⟩) HG.out _).setCell (p := ⟨g5, 3, none⟩) HG.out _).setCell (p := ⟨g5, 4, none⟩) HG.out _).setCell (p := ⟨g5, 5, none⟩) HG.out _).setCell (p := ⟨g5, 6, none⟩) HG.out _).setCell (p := ⟨g5, 7, none⟩) HG.out _).setCell (p := ⟨g5, 8, none⟩) HG.out _))) (vecIn_put HV.out V.zero), HB.out.trans (((((((((((m.h.setCell (p := ⟨g5, 0, none⟩) HG.out _).setCell (p := ⟨g5, 1, none⟩) HG.out _).setCell (p := ⟨g5, 2, none⟩) HG.out _).setCell (p := ⟨g5, 3, none⟩) HG.out _).setCell (p := ⟨g5, 4, none⟩) HG.out _).setCell (p := ⟨g5, 5, none⟩) HG.out _).setCell (p := ⟨g5, 6, none⟩) HG.out _).setCell (p := ⟨g5, 7, none⟩) HG.out _).setCell (p := ⟨g5, 8, none⟩) HG.out _)).mono HB.out.size)⟩ ?_
  clear HF HB HV HG
  clear m
  rintro w3 ⟨hF, hB⟩
  obtain ⟨c0, c1, c2, c3, c4, c5, c6, c7, c8⟩ := vecIn.litA (hF.rest.rest.first)
  obtain ⟨d0, d1, d2, d3, d4, d5, d6, d7, d8⟩ := vecIn.litB (hF.rest.rest.rest.first)
  have HF := Lib.hid hF
  have HB := Lib.hid hB
  clear hF hB
  go_wp2_with fail
  refine (k_join _ _ (row_one vB _)).mono ?_
  rintro e w4 ⟨rfl, hb⟩
  clear c0 c1 c2 c3 c4 c5 c6 c7 c8 d0 d1 d2 d3 d4 d5 d6 d7 d8
  have hs := hb.size
  simp only [World.size_alloc] at hs
  have H4 := Lib.hid (show Below w3.heap.size w3 w4 from ((Below.refl _ _).alloc (Nat.le_refl _) _).trans (hb.mono (by simp)))
  clear hb
  go_upto_region 5 with (fail)
  rename_i K hK
  refine name_world (G := fun W => Code.wp _ _ _ _ W) (fun W => Facts ((w4.heap.size, vJ) :: ((g5, V.zero) :: ((g3, vW) :: [(w.heap.size, vA), (w.heap.size + 1, vB)]))) W ∧ Below w.heap.size w W ∧ w4.heap.size < W.heap.size)
    ⟨Facts.cons (Facts.keep HF.out (H4.out.alloc (Nat.le_of_lt hs) _)) (vecIn_new w4 vJ), HB.out.trans ((H4.out.alloc (Nat.le_of_lt hs) _).mono HB.out.size), by simp⟩ ?_
  clear HF HB H4
  rintro w5 ⟨hF, hB, hs'⟩
  clear hs'
  clear hs
  obtain ⟨c0, c1, c2, c3, c4, c5, c6, c7, c8⟩ := vecIn.litA (hF.rest.rest.rest.first)
  obtain ⟨d0, d1, d2, d3, d4, d5, d6, d7, d8⟩ := vecIn.litB (hF.rest.rest.rest.rest.first)
  have HF := Lib.hid hF
  have HB := Lib.hid hB
  clear hF hB
  go_wp2_with fail
  refine (k_meet _ _ (row_one vB _)).mono ?_
  rintro e w6 ⟨rfl, hb⟩
  clear c0 c1 c2 c3 c4 c5 c6 c7 c8 d0 d1 d2 d3 d4 d5 d6 d7 d8
  have hs := hb.size
  simp only [World.size_alloc] at hs
  have H4 := Lib.hid (show Below w5.heap.size w5 w6 from ((Below.refl _ _).alloc (Nat.le_refl _) _).trans (hb.mono (by simp)))
  clear hb
  go_upto_region 6 with (fail)
  rename_i K hK
  refine name_world (G := fun W => Code.wp _ _ _ _ W) (fun W => Facts ((w6.heap.size, vM) :: ((w4.heap.size, vJ) :: ((g5, V.zero) :: ((g3, vW) :: [(w.heap.size, vA), (w.heap.size + 1, vB)])))) W ∧ Below w.heap.size w W ∧ w6.heap.size < W.heap.size)
    ⟨Facts.cons (Facts.keep HF.out (H4.out.alloc (Nat.le_of_lt hs) _)) (vecIn_new w6 vM), HB.out.trans ((H4.out.alloc (Nat.le_of_lt hs) _).mono HB.out.size), by simp⟩ ?_
  clear HF HB H4
  rintro w7 ⟨hF, hB, hs'⟩
  clear hs'
  clear hs
  have HF := Lib.hid hF
  have HB := Lib.hid hB
  clear hF hB
  go_wp2_with fail
  rename_i K hK
  refine name_world (G := fun W => Code.wp _ _ _ _ W) (fun W => Facts ((w7.heap.size, vF) :: ((w6.heap.size, vM) :: ((w4.heap.size, vJ) :: ((g5, V.zero) :: ((g3, vW) :: [(w.heap.size, vA), (w.heap.size + 1, vB)]))))) W ∧ Below w.heap.size w W)
    ⟨Facts.cons (Facts.keep HF.out ((Below.refl _ _).alloc (Nat.le_refl _) _)) (vecIn_new w7 vF), HB.out.trans (((Below.refl _ _).alloc (Nat.le_refl _) _).mono HB.out.size)⟩ ?_
  clear HF HB
  rintro w8 ⟨hF, hB⟩
  obtain ⟨f0, f1, f2, f3, f4, f5, f6, f7, f8⟩ := vecIn.litF (hF.first)
  have lf := (hF.first).lt
  obtain ⟨m0, m1, m2, m3, m4, m5, m6, m7, m8⟩ := vecIn.litM (hF.rest.first)
  have lm := (hF.rest.first).lt
  obtain ⟨j0, j1, j2, j3, j4, j5, j6, j7, j8⟩ := vecIn.litJ (hF.rest.rest.first)
  have lj := (hF.rest.rest.first).lt
  obtain ⟨u0, u1, u2, u3, u4, u5, u6, u7, u8⟩ := vecIn.litW (hF.rest.rest.rest.rest.first)
  have lu := (hF.rest.rest.rest.rest.first).lt
  obtain ⟨c0, c1, c2, c3, c4, c5, c6, c7, c8⟩ := vecIn.litA (hF.rest.rest.rest.rest.rest.first)
  have lc := (hF.rest.rest.rest.rest.rest.first).lt
  have hnf := fun (n : Near w8.heap.size w8) (k : Nat) => near_cell w8.heap.size n (w7.heap.size) k lf
  have hnm := fun (n : Near w8.heap.size w8) (k : Nat) => near_cell w8.heap.size n (w6.heap.size) k lm
  have hnj := fun (n : Near w8.heap.size w8) (k : Nat) => near_cell w8.heap.size n (w4.heap.size) k lj
  have hnu := fun (n : Near w8.heap.size w8) (k : Nat) => near_cell w8.heap.size n (g3) k lu
  have hnc := fun (n : Near w8.heap.size w8) (k : Nat) => near_cell w8.heap.size n (w.heap.size) k lc
  have HB := Lib.hid hB
  clear hF hB
  have qW := q_W
  have qJ := q_J
  have qM := q_M
  refine wp_region_dep w8.heap.size 60 (by kernel_rfl) (by kernel_rfl) (by rfl) (Nat.le_refl _) ?_
  simp only [List.take_succ_cons, List.take_zero, List.drop_succ_cons, List.drop_zero]
  iterate 31 (refine wpDep_plain (by rfl) (fun K hK => ?_); go_simp; (refine hK _ ?_; clear hK K))
  refine wpDep_plain (by rfl) (fun K hK => ?_); go_simp; refine ⟨_, fun n => callsTo_of (id_any 1 2 _), ?_⟩; (refine hK _ ?_; clear hK K)
  refine wpDep_plain (by rfl) (fun K hK => ?_); go_simp; refine ⟨_, fun n => callsTo_of (k_has _), ?_⟩; (refine hK _ ?_; clear hK K)
  iterate 3 (refine wpDep_plain (by rfl) (fun K hK => ?_); go_simp; (refine hK _ ?_; clear hK K))
  refine wpDep_plain (by rfl) (fun K hK => ?_); go_simp; refine ⟨_, fun n => callsTo_of (id_any 1 3 _), ?_⟩; (refine hK _ ?_; clear hK K)
  refine wpDep_plain (by rfl) (fun K hK => ?_); go_simp; refine ⟨_, fun n => callsTo_of (k_next _), ?_⟩; (refine hK _ ?_; clear hK K)
  iterate 4 (refine wpDep_plain (by rfl) (fun K hK => ?_); go_simp; (refine hK _ ?_; clear hK K))
  refine wpDep_plain (by rfl) (fun K hK => ?_); go_simp; refine ⟨_, fun n => callsTo_of (k_covers _), ?_⟩; (refine hK _ ?_; clear hK K)
  iterate 4 (refine wpDep_plain (by rfl) (fun K hK => ?_); go_simp; (refine hK _ ?_; clear hK K))
  refine wpDep_make isLack (by rfl) (by rfl) isLack_stays (by rfl) ?_ ?_
  · intro n
    go_simp
    exact k_lacks n.u
  iterate 2 (refine wpDep_plain (by rfl) (fun K hK => ?_); go_simp; (refine hK _ ?_; clear hK K))
  refine wpDep_make isLack (by rfl) (by rfl) isLack_stays (by rfl) ?_ ?_
  · intro n
    have hr := row_stretch n.u
    go_simp
    first | exact ⟨(Below.refl _ _).alloc (Nat.le_refl _) _, _, _, rfl, hr⟩ | exact ⟨_, _, rfl, hr⟩
  refine wpDep_both (t := 91) (s := 94) (φ := isLack) (ψ := isLack) (by simp) (by simp) (by rfl) (by decide) (show 91 < 103 by decide) (show 94 < 103 by decide) (by rfl) (.bool true) ?_ ?_
  · intro x y n hx hy
    go_simp
    exact callsTo_of (k_equal n.u x y hx hy)
  iterate 4 (refine wpDep_plain (by rfl) (fun K hK => ?_); go_simp; (refine hK _ ?_; clear hK K))
  refine wpDep_plain (by rfl) (fun K hK => ?_); go_simp; refine ⟨_, fun n => callsTo_of (k_many _), ?_⟩; (refine hK _ ?_; clear hK K)
  iterate 3 (refine wpDep_plain (by rfl) (fun K hK => ?_); go_simp; (refine hK _ ?_; clear hK K))
  refine wpDep_nil ?_
  intro f m _
  simp only [fillV]
  go_wp2_with fail
  go_ret
  exact ⟨rfl, HB.out.trans (m.h.mono HB.out.size)⟩
end Go.Proofs.Ytjpgabpicfcapaa
