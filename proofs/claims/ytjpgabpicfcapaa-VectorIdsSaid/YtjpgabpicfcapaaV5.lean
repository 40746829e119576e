/- walks: what must be a vector; an id that is added -/
import Derived.Test.YtjpgabpicfcapaaV4
namespace Go.Proofs.Ytjpgabpicfcapaa
open Go.RowKit

theorem row_behind (v : V) (A : Obj) (w : World) : rowVec ((w.alloc A).alloc (.cells (vecA v) 24)) (some ⟨w.heap.size + 1, 0, none⟩) [v] := by
  have := row_one v (w.alloc A)
  rwa [World.size_alloc] at this
abbrev panicV (n : Int) : Ending := .panicked [{ v := wrongV n, recovered := false }]

set_option maxHeartbeats 1000000 in
theorem workedOf_yes (v : V) (hm : v.may = true) (w : World) : Calls Try.prog 38 #[vec v] w fun e w' => ∃ g, e = .returned (.pointer (some ⟨g, 0, none⟩)) ∧ w.heap.size ≤ g ∧ vecIn w' g v ∧ Below w.heap.size w w' := by
  have HM := Lib.hid hm
  clear hm
  go_enter Try.func38, Try.ntmps38
  go_wp2_with fail
  refine (are_one v (w.heap.size + 1) _ (row_behind v _ w)).mono ?_
  rintro e w1 ⟨rfl, hB⟩
  rw [HM.out]
  have l0 : w.heap.size < w1.heap.size := by have := hB.size; simp at this; omega
  have hb : Below w.heap.size w w1 := (((Below.refl _ _).alloc (Nat.le_refl _) _).alloc (by simp) _).trans (hB.mono (by simp; omega))
  have hv : vecIn w1 w.heap.size v := holds_below (holds_alloc (vecIn_new w v) (.cells (vecA v) 24)) hB (by simp; omega)
  obtain ⟨c0, c1, c2, c3, c4, c5, c6, c7, c8⟩ := hv.cells
  go_wp2
  go_ret
  exact ⟨w1.heap.size, rfl, by omega, holds_new w1 (vecA v) 66, hb.alloc (by omega) _⟩
theorem workedOf_no (v : V) (hm : v.may = false) (w : World) : Calls Try.prog 38 #[vec v] w fun e w' => e = panicV 230 ∧ Below w.heap.size w w' := by
  have HM := Lib.hid hm
  clear hm
  go_enter Try.func38, Try.ntmps38
  go_wp2_with fail
  refine (are_one v (w.heap.size + 1) _ (row_behind v _ w)).mono ?_
  rintro e w1 ⟨rfl, hB⟩
  rw [HM.out]
  have hb : Below w.heap.size w w1 := (((Below.refl _ _).alloc (Nat.le_refl _) _).alloc (by simp) _).trans (hB.mono (by simp; omega))
  go_wp2
  exact ⟨rfl, rfl, hb⟩

theorem keep_set {B : Nat} {a w : World} (h : Below B a w) (b o : Nat) (x : Value) : Wild.Keep (fun g => g = b) B a (w.setCell ⟨b, o, none⟩ x) :=
  ⟨h.os, h.tape, h.output, by simp only [World.size_setCell]; exact h.size, fun k hk hne => by rw [Below.heap_setCell _ _ _ _ hne]; exact h.block k hk⟩

/-- why an id can't be added; 0: it can -/
def addE (v : V) (i : I3) : Int := match i.may, hasB v i, nextB v i with
  | false, _, _ => 210
  | true, true, _ => 5
  | true, false, false => 231
  | true, false, true => 0
def V.add (v : V) (i : I3) : V := v.set i.s.toNat (v i.s.toNat + 1)

set_option maxRecDepth 4000 in
set_option maxHeartbeats 2000000 in
theorem add_any (v : V) (i : I3) (hr : v.rng) (hm : v.may = true) (b : Nat) (w : World) (hv : vecIn w b v) :
    Calls Try.prog 39 #[.pointer (some ⟨b, 0, none⟩), i.val] w fun e w' =>
      (addE v i = 0 ∧ e = .returned (.tuple #[]) ∧ vecIn w' b (v.add i) ∧ Wild.Keep (fun g => g = b) w.heap.size w w') ∨ (addE v i ≠ 0 ∧ e = panicV (addE v i) ∧ Below w.heap.size w w') := by
  have lb := hv.lt
  have hn := @near_cell (w.heap.size + 1)
  have hz := @near_frozen (w.heap.size + 1)
  obtain ⟨c0, c1, c2, c3, c4, c5, c6, c7, c8⟩ := hv.cells
  have lb1 : b < w.heap.size + 1 := by omega
  cases h1 : i.may with
  | false =>
    have hE : addE v i = 210 := by unfold addE; rw [h1]
    have H1 := Lib.hid h1
    have HE := Lib.hid hE
    clear h1 hE
    go_enter Try.func39, Try.ntmps39
    go_wp2_with fail
    refine (idCheck_any i _).mono ?_
    rintro e w1 ⟨rfl, hB⟩
    rw [H1.out]
    simp only [errOr]
    go_wp2
    exact ⟨rfl, .inr ⟨by rw [HE.out]; decide, by rw [HE.out], ((Below.refl _ _).alloc (Nat.le_refl _) _).trans (hB.mono (by simp))⟩⟩
  | true =>
    have H1 := Lib.hid h1
    obtain ⟨t, s, q⟩ := i
    go_enter Try.func39, Try.ntmps39
    go_wp2_with fail
    refine (idCheck_any ⟨t, s, q⟩ _).mono ?_
    rintro e W1 ⟨rfl, hB⟩
    rw [H1.out]
    simp only [errOr]
    have l1 := hB.size
    simp only [World.size_alloc] at l1
    have i0 : W1.cell? ⟨w.heap.size, 0, none⟩ = some (.int .u64 t) := (hB.cell (p := ⟨w.heap.size, 0, none⟩) (by simp)).trans (by simp [go_sem])
    have i1 : W1.cell? ⟨w.heap.size, 1, none⟩ = some (.int .i64 s) := (hB.cell (p := ⟨w.heap.size, 1, none⟩) (by simp)).trans (by simp [go_sem])
    have i2 : W1.cell? ⟨w.heap.size, 2, none⟩ = some (.int .u64 q) := (hB.cell (p := ⟨w.heap.size, 2, none⟩) (by simp)).trans (by simp [go_sem])
    have hbW : Below w.heap.size w W1 := ((Below.refl _ _).alloc (Nat.le_refl _) _).trans (hB.mono (by simp))
    have hv1 : vecIn W1 b v := holds_below hv hbW lb
    have lbW : b < W1.heap.size := hv1.lt
    have lwW : w.heap.size < W1.heap.size := by omega
    clear hB hn hz c0 c1 c2 c3 c4 c5 c6 c7 c8 h1
    obtain ⟨c0, c1, c2, c3, c4, c5, c6, c7, c8⟩ := hv1.cells
    have hn := @near_cell W1.heap.size
    cases h2 : hasB v ⟨t, s, q⟩ with
    | true =>
      have hE : addE v ⟨t, s, q⟩ = 5 := by unfold addE; rw [H1.out, h2]
      have H2 := Lib.hid h2
      have HE := Lib.hid hE
      clear h2 hE
      go_wp2_with fail
      refine wp_region_dep W1.heap.size 7 (by kernel_rfl) (by kernel_rfl) (by rfl) (Nat.le_refl _) ?_
      simp only [List.take_succ_cons, List.take_zero, List.drop_succ_cons, List.drop_zero]
      iterate 5 (refine wpDep_plain (by rfl) (fun K hK => ?_); go_simp; (refine hK _ ?_; clear hK K))
      refine wpDep_plain (by rfl) (fun K hK => ?_); go_simp; refine ⟨_, fun n => callsTo_of (has_any v ⟨t, s, q⟩ hr _), ?_⟩; (refine hK _ ?_; clear hK K)

      rw [H2.out]
      iterate 1 (refine wpDep_plain (by rfl) (fun K hK => ?_); go_simp; (refine hK _ ?_; clear hK K))
      refine wpDep_nil ?_
      intro f m _
      simp only [fillV]
      go_wp2
      exact ⟨rfl, .inr ⟨by rw [HE.out]; decide, by rw [HE.out], hbW.trans (m.h.mono (by omega))⟩⟩
    | false =>
      have H2 := Lib.hid h2
      go_wp2_with fail
      refine wp_region_dep W1.heap.size 7 (by kernel_rfl) (by kernel_rfl) (by rfl) (Nat.le_refl _) ?_
      simp only [List.take_succ_cons, List.take_zero, List.drop_succ_cons, List.drop_zero]
      iterate 5 (refine wpDep_plain (by rfl) (fun K hK => ?_); go_simp; (refine hK _ ?_; clear hK K))
      refine wpDep_plain (by rfl) (fun K hK => ?_); go_simp; refine ⟨_, fun n => callsTo_of (has_any v ⟨t, s, q⟩ hr _), ?_⟩; (refine hK _ ?_; clear hK K)

      rw [H2.out]
      iterate 1 (refine wpDep_plain (by rfl) (fun K hK => ?_); go_simp; (refine hK _ ?_; clear hK K))
      refine wpDep_nil ?_
      intro f m _
      simp only [fillV]
      have hbm : Below w.heap.size w m.u := hbW.trans (m.h.mono (by omega))
      have hvm : vecIn m.u b v := holds_below hv1 m.h lbW
      have j0 := (hn m _ 0 lwW).trans i0
      have j1 := (hn m _ 1 lwW).trans i1
      have j2 := (hn m _ 2 lwW).trans i2
      have lbm : b < m.u.heap.size := hvm.lt
      have lwm : w.heap.size < m.u.heap.size := by have := m.h.size; omega
      clear hn c0 c1 c2 c3 c4 c5 c6 c7 c8 i0 i1 i2
      obtain ⟨c0, c1, c2, c3, c4, c5, c6, c7, c8⟩ := hvm.cells
      obtain ⟨W2, hW2⟩ : ∃ W2, m.u = W2 := ⟨_, rfl⟩
      rw [hW2] at hbm hvm j0 j1 j2 lbm lwm c0 c1 c2 c3 c4 c5 c6 c7 c8
      rw [hW2]
      clear hW2
      have hn := @near_cell W2.heap.size
      cases h3 : nextB v ⟨t, s, q⟩ with
      | false =>
        have hE : addE v ⟨t, s, q⟩ = 231 := by unfold addE; rw [H1.out, h2, h3]
        have H3 := Lib.hid h3
        have HE := Lib.hid hE
        clear h2 h3 hE
        go_wp2_with fail
        refine wp_region_dep W2.heap.size 8 (by kernel_rfl) (by kernel_rfl) (by rfl) (Nat.le_refl _) ?_
        simp only [List.take_succ_cons, List.take_zero, List.drop_succ_cons, List.drop_zero]
        iterate 5 (refine wpDep_plain (by rfl) (fun K hK => ?_); go_simp; (refine hK _ ?_; clear hK K))
        refine wpDep_plain (by rfl) (fun K hK => ?_); go_simp; refine ⟨_, fun n => callsTo_of (next_any v ⟨t, s, q⟩ hr _), ?_⟩; (refine hK _ ?_; clear hK K)

        rw [H3.out]
        iterate 2 (refine wpDep_plain (by rfl) (fun K hK => ?_); go_simp; (refine hK _ ?_; clear hK K))
        refine wpDep_nil ?_
        intro f m2 _
        simp only [fillV]
        go_wp2
        exact ⟨rfl, .inr ⟨by rw [HE.out]; decide, by rw [HE.out], hbm.trans (m2.h.mono (by omega))⟩⟩
      | true =>
        have hE : addE v ⟨t, s, q⟩ = 0 := by unfold addE; rw [H1.out, h2, h3]
        have H3 := Lib.hid h3
        have HE := Lib.hid hE
        obtain ⟨k, hk, k1, k8⟩ := may_site H1.out
        dsimp only at hk
        subst hk
        clear h2 h3 hE
        go_wp2_with fail
        refine wp_region_dep W2.heap.size 8 (by kernel_rfl) (by kernel_rfl) (by rfl) (Nat.le_refl _) ?_
        simp only [List.take_succ_cons, List.take_zero, List.drop_succ_cons, List.drop_zero]
        iterate 5 (refine wpDep_plain (by rfl) (fun K hK => ?_); go_simp; (refine hK _ ?_; clear hK K))
        refine wpDep_plain (by rfl) (fun K hK => ?_); go_simp; refine ⟨_, fun n => callsTo_of (next_any v ⟨t, k, q⟩ hr _), ?_⟩; (refine hK _ ?_; clear hK K)

        rw [H3.out]
        iterate 2 (refine wpDep_plain (by rfl) (fun K hK => ?_); go_simp; (refine hK _ ?_; clear hK K))
        refine wpDep_nil ?_
        intro f m2 _
        simp only [fillV]
        have hv3 : vecIn m2.u b v := holds_below hvm m2.h lbm
        have e1 := (hn m2 _ 1 lwm).trans j1
        have hb3 : Below w.heap.size w m2.u := hbm.trans (m2.h.mono (by omega))
        have ck := hv3.at k (by omega)
        have zk := hv3.free k (by omega)
        have lb3 := hv3.lt
        have lw3 : w.heap.size < m2.u.heap.size := by have := m2.h.size; omega
        have hle := may_le hm k (by omega)
        have hlo := (hr k (by omega)).1
        have hw : IntKind.u64.wrap (v k + 1) = v k + 1 := IntWalk.u64_in _ (by omega)
        have hk9 : (k : Int) < 9 := by omega
        have hkn : k < 9 := by omega
        have HV := Lib.hid hv3
        clear hn c0 c1 c2 c3 c4 c5 c6 c7 c8 j0 j1 j2 hv3 hvm hv1 hv
        obtain ⟨W3, hW3⟩ : ∃ W3, m2.u = W3 := ⟨_, rfl⟩
        rw [hW3] at HV e1 ck zk lb3 lw3 hb3
        rw [hW3]
        clear hW3
        have hn := fun (n : Near W3.heap.size W3) => near_cell W3.heap.size n b k lb3
        have hz := fun (n : Near W3.heap.size W3) => near_frozen W3.heap.size n b k lb3
        have hn2 := fun (n : Near W3.heap.size W3) => near_cell W3.heap.size n w.heap.size 1 lw3
        go_wp2_with fail
        refine wp_region_dep W3.heap.size 11 (by kernel_rfl) (by kernel_rfl) (by rfl) (Nat.le_refl _) ?_
        simp only [List.take_succ_cons, List.take_zero, List.drop_succ_cons, List.drop_zero]
        iterate 11 (refine wpDep_plain (by rfl) (fun K hK => ?_); go_simp; (refine hK _ ?_; clear hK K))
        refine wpDep_nil ?_
        intro f m3 _
        simp only [fillV]
        have hv4 := holds_below HV.out m3.h lb3
        have ck4 := (hn m3).trans ck
        have zk4 := (hz m3).trans zk
        have hb4 : Below w.heap.size w m3.u := hb3.trans (m3.h.mono (by omega))
        clear hn hz hn2
        go_wp2
        go_end0
        exact .inl ⟨HE.out, rfl, vecIn_set hv4 k (by omega) (v k + 1), keep_set hb4 b k _⟩
end Go.Proofs.Ytjpgabpicfcapaa
