/- walks: which ids a vector has, and which is the next -/
import Derived.Test.YtjpgabpicfcapaaV2
import Derived.Test.YtjpgabpicfcapaaDep2
import Derived.IntWalk
namespace Go.Proofs.Ytjpgabpicfcapaa
open Go.RowKit

def hasB (v : V) (i : I3) : Bool := v.may && (i.may && decide (i.q ≤ v i.s.toNat))
def nextB (v : V) (i : I3) : Bool := v.may && (i.may && (i.q == v i.s.toNat + 1))

theorem are_one (v : V) (g : Nat) (w : World) (h : rowVec w (some ⟨g, 0, none⟩) [v]) :
    Calls Try.prog 34 #[.slice (some ⟨g, 0, none⟩) 1 1] w fun e w' => e = .returned (.bool v.may) ∧ Below w.heap.size w w' := by
  have := are_any [v] (some ⟨g, 0, none⟩) 1 w h (by simp)
  have e : allMay [v] = v.may := by simp [allMay]
  rwa [e] at this
theorem may_site {i : I3} (h : i.may = true) : ∃ k : Nat, i.s = k ∧ 1 ≤ k ∧ k ≤ 8 := by
  unfold I3.may isSt at h
  simp only [Bool.and_eq_true, decide_eq_true_eq] at h
  exact ⟨i.s.toNat, by omega, by omega, by omega⟩
theorem may_le {v : V} (h : v.may = true) (k : Nat) (hk : k < 9) : v k ≤ 4611686018427387904 := by
  unfold V.may at h
  rw [List.all_eq_true] at h
  have := h k (List.mem_range.2 hk)
  unfold V.badAt at this
  simp only [Bool.not_eq_true', Bool.or_eq_false_iff, decide_eq_false_iff_not] at this
  omega

set_option maxRecDepth 4000 in
set_option maxHeartbeats 2000000 in
theorem has_any (v : V) (i : I3) (hv : v.rng) (w : World) : Calls Try.prog 12 #[vec v, i.val] w fun e w' => e = .returned (.bool (hasB v i)) ∧ Below w.heap.size w w' := by
  have hn := @near_cell (w.heap.size + 1 + 1)
  cases hm : v.may with
  | false =>
    have HM := Lib.hid hm
    have HH := Lib.hid (show hasB v i = false by unfold hasB; rw [hm]; rfl)
    clear hm
    go_enter Try.func12, Try.ntmps12
    go_wp2_with fail
    refine New.wp_region_dep (w.heap.size + 1 + 1) 18 (by kernel_rfl) (by kernel_rfl) (by rfl) (by simp) ?_
    simp only [List.take_succ_cons, List.take_zero, List.drop_succ_cons, List.drop_zero]
    refine New.wpDep_plain (by rfl) (fun K hK => ?_); go_simp; (refine hK _ ?_; clear hK K)
    refine New.wpDep_make (fun x w' => ∃ g, x = .slice (some ⟨g, 0, none⟩) 1 1 ∧ rowVec w' (some ⟨g, 0, none⟩) [v]) false (by rfl) (by rfl) ?_ (by rfl) ?_ ?_
    · rintro x a b hb ⟨g, e, h⟩
      exact ⟨g, e, rowV_below h hb⟩
    · intro n
      have hr := row_one v n.u
      go_simp
      exact (Below.refl _ _).alloc (Nat.le_refl _) _
    refine New.wpDep_use (t := 6) (List.mem_cons_self ..) (by rfl) (show 6 < 22 by decide) (by rfl) (.bool v.may) ?_ ?_
    · rintro x n ⟨g, rfl, h⟩
      go_simp
      exact callsTo_of (are_one v g _ h)
    rw [HM.out]
    iterate 15 (refine New.wpDep_plain (by rfl) (fun K hK => ?_); go_simp; (refine hK _ ?_; clear hK K))
    refine New.wpDep_nil ?_
    intro f m _ _
    simp only [New.fillV]
    go_wp2
    go_ret
    exact ⟨by rw [HH.out]; rfl, ((((Below.refl _ _).alloc (Nat.le_refl _) _).alloc (by simp) _)).trans (m.h.mono (by omega))⟩
  | true =>
    have HM := Lib.hid hm
    cases hi : i.may with
    | false =>
      have HI := Lib.hid hi
      have HH := Lib.hid (show hasB v i = false by unfold hasB; rw [hi, hm]; rfl)
      clear hm hi
      go_enter Try.func12, Try.ntmps12
      go_wp2_with fail
      refine New.wp_region_dep (w.heap.size + 1 + 1) 18 (by kernel_rfl) (by kernel_rfl) (by rfl) (by simp) ?_
      simp only [List.take_succ_cons, List.take_zero, List.drop_succ_cons, List.drop_zero]
      refine New.wpDep_plain (by rfl) (fun K hK => ?_); go_simp; (refine hK _ ?_; clear hK K)
      refine New.wpDep_make (fun x w' => ∃ g, x = .slice (some ⟨g, 0, none⟩) 1 1 ∧ rowVec w' (some ⟨g, 0, none⟩) [v]) false (by rfl) (by rfl) ?_ (by rfl) ?_ ?_
      · rintro x a b hb ⟨g, e, h⟩
        exact ⟨g, e, rowV_below h hb⟩
      · intro n
        have hr := row_one v n.u
        go_simp
        exact (Below.refl _ _).alloc (Nat.le_refl _) _
      refine New.wpDep_use (t := 6) (List.mem_cons_self ..) (by rfl) (show 6 < 22 by decide) (by rfl) (.bool v.may) ?_ ?_
      · rintro x n ⟨g, rfl, h⟩
        go_simp
        exact callsTo_of (are_one v g _ h)
      rw [HM.out]
      iterate 2 (refine New.wpDep_plain (by rfl) (fun K hK => ?_); go_simp; (refine hK _ ?_; clear hK K))
      refine New.wpDep_plain (by rfl) (fun K hK => ?_); go_simp; refine ⟨_, fun n => callsTo_of (idCheck_any i _), ?_⟩; (refine hK _ ?_; clear hK K)
      rw [HI.out]
      simp only [errOr]
      iterate 12 (refine New.wpDep_plain (by rfl) (fun K hK => ?_); go_simp; (refine hK _ ?_; clear hK K))
      refine New.wpDep_nil ?_
      intro f m _ _
      simp only [New.fillV]
      go_wp2
      go_ret
      exact ⟨by rw [HH.out]; rfl, ((((Below.refl _ _).alloc (Nat.le_refl _) _).alloc (by simp) _)).trans (m.h.mono (by omega))⟩
    | true =>
      have HI := Lib.hid hi
      obtain ⟨k, hk, k1, k8⟩ := may_site hi
      have hle := may_le hm k (by omega)
      have hlo := (hv k (by omega)).1
      have HH := Lib.hid (show hasB v i = decide (i.q ≤ v k) by unfold hasB; rw [hi, hm, hk]; simp)
      obtain ⟨t, s, q⟩ := i
      dsimp only at hk HH
      subst hk
      have HI2 := HI
      clear hm hi
      have hcell := vec_lit v k (by omega)
      have hk9 : (k : Int) < 9 := by omega
      have hkn : k < 9 := by omega
      go_enter Try.func12, Try.ntmps12
      go_wp2_with fail
      refine New.wp_region_dep (w.heap.size + 1 + 1) 18 (by kernel_rfl) (by kernel_rfl) (by rfl) (by simp) ?_
      simp only [List.take_succ_cons, List.take_zero, List.drop_succ_cons, List.drop_zero]
      refine New.wpDep_plain (by rfl) (fun K hK => ?_); go_simp; (refine hK _ ?_; clear hK K)
      refine New.wpDep_make (fun x w' => ∃ g, x = .slice (some ⟨g, 0, none⟩) 1 1 ∧ rowVec w' (some ⟨g, 0, none⟩) [v]) false (by rfl) (by rfl) ?_ (by rfl) ?_ ?_
      · rintro x a b hb ⟨g, e, h⟩
        exact ⟨g, e, rowV_below h hb⟩
      · intro n
        have hr := row_one v n.u
        go_simp
        exact (Below.refl _ _).alloc (Nat.le_refl _) _
      refine New.wpDep_use (t := 6) (List.mem_cons_self ..) (by rfl) (show 6 < 22 by decide) (by rfl) (.bool v.may) ?_ ?_
      · rintro x n ⟨g, rfl, h⟩
        go_simp
        exact callsTo_of (are_one v g _ h)
      rw [HM.out]
      iterate 2 (refine New.wpDep_plain (by rfl) (fun K hK => ?_); go_simp; (refine hK _ ?_; clear hK K))
      refine New.wpDep_plain (by rfl) (fun K hK => ?_); go_simp; refine ⟨_, fun n => callsTo_of (idCheck_any ⟨t, k, q⟩ _), ?_⟩; (refine hK _ ?_; clear hK K)
      rw [HI.out]
      simp only [errOr]
      iterate 12 (refine New.wpDep_plain (by rfl) (fun K hK => ?_); go_simp; (refine hK _ ?_; clear hK K))
      refine New.wpDep_nil ?_
      intro f m _ _
      simp only [New.fillV]
      go_wp2
      go_ret
      exact ⟨by rw [HH.out]; rfl, ((((Below.refl _ _).alloc (Nat.le_refl _) _).alloc (by simp) _)).trans (m.h.mono (by omega))⟩
set_option maxRecDepth 4000 in
set_option maxHeartbeats 2000000 in
theorem next_any (v : V) (i : I3) (hv : v.rng) (w : World) : Calls Try.prog 13 #[vec v, i.val] w fun e w' => e = .returned (.bool (nextB v i)) ∧ Below w.heap.size w w' := by
  have hn := @near_cell (w.heap.size + 1 + 1)
  cases hm : v.may with
  | false =>
    have HM := Lib.hid hm
    have HH := Lib.hid (show nextB v i = false by unfold nextB; rw [hm]; rfl)
    clear hm
    go_enter Try.func13, Try.ntmps13
    go_wp2_with fail
    refine New.wp_region_dep (w.heap.size + 1 + 1) 19 (by kernel_rfl) (by kernel_rfl) (by rfl) (by simp) ?_
    simp only [List.take_succ_cons, List.take_zero, List.drop_succ_cons, List.drop_zero]
    refine New.wpDep_plain (by rfl) (fun K hK => ?_); go_simp; (refine hK _ ?_; clear hK K)
    refine New.wpDep_make (fun x w' => ∃ g, x = .slice (some ⟨g, 0, none⟩) 1 1 ∧ rowVec w' (some ⟨g, 0, none⟩) [v]) false (by rfl) (by rfl) ?_ (by rfl) ?_ ?_
    · rintro x a b hb ⟨g, e, h⟩
      exact ⟨g, e, rowV_below h hb⟩
    · intro n
      have hr := row_one v n.u
      go_simp
      exact (Below.refl _ _).alloc (Nat.le_refl _) _
    refine New.wpDep_use (t := 6) (List.mem_cons_self ..) (by rfl) (show 6 < 23 by decide) (by rfl) (.bool v.may) ?_ ?_
    · rintro x n ⟨g, rfl, h⟩
      go_simp
      exact callsTo_of (are_one v g _ h)
    rw [HM.out]
    iterate 16 (refine New.wpDep_plain (by rfl) (fun K hK => ?_); go_simp; (refine hK _ ?_; clear hK K))
    refine New.wpDep_nil ?_
    intro f m _ _
    simp only [New.fillV]
    go_wp2
    go_ret
    exact ⟨by rw [HH.out]; rfl, ((((Below.refl _ _).alloc (Nat.le_refl _) _).alloc (by simp) _)).trans (m.h.mono (by omega))⟩
  | true =>
    have HM := Lib.hid hm
    cases hi : i.may with
    | false =>
      have HI := Lib.hid hi
      have HH := Lib.hid (show nextB v i = false by unfold nextB; rw [hi, hm]; rfl)
      clear hm hi
      go_enter Try.func13, Try.ntmps13
      go_wp2_with fail
      refine New.wp_region_dep (w.heap.size + 1 + 1) 19 (by kernel_rfl) (by kernel_rfl) (by rfl) (by simp) ?_
      simp only [List.take_succ_cons, List.take_zero, List.drop_succ_cons, List.drop_zero]
      refine New.wpDep_plain (by rfl) (fun K hK => ?_); go_simp; (refine hK _ ?_; clear hK K)
      refine New.wpDep_make (fun x w' => ∃ g, x = .slice (some ⟨g, 0, none⟩) 1 1 ∧ rowVec w' (some ⟨g, 0, none⟩) [v]) false (by rfl) (by rfl) ?_ (by rfl) ?_ ?_
      · rintro x a b hb ⟨g, e, h⟩
        exact ⟨g, e, rowV_below h hb⟩
      · intro n
        have hr := row_one v n.u
        go_simp
        exact (Below.refl _ _).alloc (Nat.le_refl _) _
      refine New.wpDep_use (t := 6) (List.mem_cons_self ..) (by rfl) (show 6 < 23 by decide) (by rfl) (.bool v.may) ?_ ?_
      · rintro x n ⟨g, rfl, h⟩
        go_simp
        exact callsTo_of (are_one v g _ h)
      rw [HM.out]
      iterate 2 (refine New.wpDep_plain (by rfl) (fun K hK => ?_); go_simp; (refine hK _ ?_; clear hK K))
      refine New.wpDep_plain (by rfl) (fun K hK => ?_); go_simp; refine ⟨_, fun n => callsTo_of (idCheck_any i _), ?_⟩; (refine hK _ ?_; clear hK K)
      rw [HI.out]
      simp only [errOr]
      iterate 13 (refine New.wpDep_plain (by rfl) (fun K hK => ?_); go_simp; (refine hK _ ?_; clear hK K))
      refine New.wpDep_nil ?_
      intro f m _ _
      simp only [New.fillV]
      go_wp2
      go_ret
      exact ⟨by rw [HH.out]; rfl, ((((Below.refl _ _).alloc (Nat.le_refl _) _).alloc (by simp) _)).trans (m.h.mono (by omega))⟩
    | true =>
      have HI := Lib.hid hi
      obtain ⟨k, hk, k1, k8⟩ := may_site hi
      have hle := may_le hm k (by omega)
      have hlo := (hv k (by omega)).1
      have hw : IntKind.u64.wrap (v k + 1) = v k + 1 := IntWalk.u64_in _ (by omega)
      have HH := Lib.hid (show nextB v i = (i.q == v k + 1) by unfold nextB; rw [hi, hm, hk]; simp)
      obtain ⟨t, s, q⟩ := i
      dsimp only at hk HH
      subst hk
      have HI2 := HI
      clear hm hi
      have hcell := vec_lit v k (by omega)
      have hk9 : (k : Int) < 9 := by omega
      have hkn : k < 9 := by omega
      go_enter Try.func13, Try.ntmps13
      go_wp2_with fail
      refine New.wp_region_dep (w.heap.size + 1 + 1) 19 (by kernel_rfl) (by kernel_rfl) (by rfl) (by simp) ?_
      simp only [List.take_succ_cons, List.take_zero, List.drop_succ_cons, List.drop_zero]
      refine New.wpDep_plain (by rfl) (fun K hK => ?_); go_simp; (refine hK _ ?_; clear hK K)
      refine New.wpDep_make (fun x w' => ∃ g, x = .slice (some ⟨g, 0, none⟩) 1 1 ∧ rowVec w' (some ⟨g, 0, none⟩) [v]) false (by rfl) (by rfl) ?_ (by rfl) ?_ ?_
      · rintro x a b hb ⟨g, e, h⟩
        exact ⟨g, e, rowV_below h hb⟩
      · intro n
        have hr := row_one v n.u
        go_simp
        exact (Below.refl _ _).alloc (Nat.le_refl _) _
      refine New.wpDep_use (t := 6) (List.mem_cons_self ..) (by rfl) (show 6 < 23 by decide) (by rfl) (.bool v.may) ?_ ?_
      · rintro x n ⟨g, rfl, h⟩
        go_simp
        exact callsTo_of (are_one v g _ h)
      rw [HM.out]
      iterate 2 (refine New.wpDep_plain (by rfl) (fun K hK => ?_); go_simp; (refine hK _ ?_; clear hK K))
      refine New.wpDep_plain (by rfl) (fun K hK => ?_); go_simp; refine ⟨_, fun n => callsTo_of (idCheck_any ⟨t, k, q⟩ _), ?_⟩; (refine hK _ ?_; clear hK K)
      rw [HI.out]
      simp only [errOr]
      iterate 13 (refine New.wpDep_plain (by rfl) (fun K hK => ?_); go_simp; (refine hK _ ?_; clear hK K))
      refine New.wpDep_nil ?_
      intro f m _ _
      simp only [New.fillV]
      go_wp2
      go_ret
      exact ⟨by rw [HH.out]; rfl, ((((Below.refl _ _).alloc (Nat.le_refl _) _).alloc (by simp) _)).trans (m.h.mono (by omega))⟩
end Go.Proofs.Ytjpgabpicfcapaa
