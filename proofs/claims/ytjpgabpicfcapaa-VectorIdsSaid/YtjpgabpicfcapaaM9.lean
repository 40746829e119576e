/- slices.insertionSortCmpFunc at ids: what it makes of a row. -/
import Derived.Test.YtjpgabpicfcapaaM8
import Derived.BigRegion
namespace Go.Proofs.Ytjpgabpicfcapaa
open Go.RowKit

abbrev cmpV (c : Nat) : Value := .func (.func 57) #[] #[.pointer (some ⟨c, 0, none⟩)]
abbrev aheadV : Value := .func (.func 49) #[] #[]
/-- i ids are sorted; x goes down, behind j ids. -/
def downI (l : List I3) (g c i j : Nat) (w W : World) : Prop :=
  ∃ (P S : List I3) (x : I3), P.length = j ∧ insR P x ++ S = sortR (l.take (i + 1)) ∧ j + S.length = i ∧ ids W g (P ++ x :: S ++ l.drop (i + 1)) ∧ holds W c [aheadV] ∧ Wild.Keep (fun k => k = g) w.heap.size w W
def upI (l : List I3) (g c i : Nat) (w W : World) : Prop := ids W g (sortR (l.take i) ++ l.drop i) ∧ holds W c [aheadV] ∧ Wild.Keep (fun k => k = g) w.heap.size w W

theorem below_drew (B : Nat) (W : World) : Below B W W.drew := ⟨rfl, rfl, rfl, Nat.le_refl _, fun _ _ => rfl⟩
theorem mid_at (P : List I3) (y x : I3) (S R : List I3) (j : Nat) (hP : P.length = j) (h : j < (P ++ [y] ++ x :: S ++ R).length) : (P ++ [y] ++ x :: S ++ R)[j] = y := by subst hP; simp
theorem mid_at' (P : List I3) (y x : I3) (S R : List I3) (j : Nat) (hP : P.length = j) (h : j + 1 < (P ++ [y] ++ x :: S ++ R).length) : (P ++ [y] ++ x :: S ++ R)[j + 1] = x := by
  subst hP
  have e : P ++ [y] ++ x :: S ++ R = (P ++ [y]) ++ (x :: (S ++ R)) := by simp
  simp only [e]
  rw [List.getElem_append_right (by simp)]
  simp
theorem mid_swap (P : List I3) (y x : I3) (S R : List I3) (j : Nat) (hP : P.length = j) : ((P ++ [y] ++ x :: S ++ R).set (j + 1) y).set j x = P ++ x :: (y :: S) ++ R := by
  subst hP
  have e : P ++ [y] ++ x :: S ++ R = P ++ (y :: x :: (S ++ R)) := by simp
  rw [e, List.set_append_right _ _ (by omega), List.set_append_right _ _ (by omega)]
  simp
set_option maxRecDepth 4000 in
set_option maxHeartbeats 2000000 in
theorem insertion_any (l : List I3) (hn : l.length ≤ 1000) (g c cap : Nat) (hgc : ¬ c = g) (w : World) (hg : ids w g l) (hc : holds w c [aheadV]) :
    Calls Try.prog 63 #[.slice (some ⟨g, 0, none⟩) l.length cap, .int .i64 0, .int .i64 l.length, cmpV c] w fun e w' => e = .returned (.tuple #[]) ∧ ids w' g (sortR l) ∧ holds w' c [aheadV] ∧ Wild.Keep (fun k => k = g) w.heap.size w w' := by
  have HG := Lib.hid hg
  have HC := Lib.hid hc
  clear hg hc
  go_enter Try.func63, Try.ntmps63
  go_wp2_with fail
  go_loopw [8] (fun i W => ∃ k : Nat, 1 ≤ k ∧ i = .int .i64 k ∧ (k ≤ l.length ∨ k = 1) ∧ upI l g c k w W) (fun i _ => l.length + 1 - (intOf i).toNat)
  case atStart =>
    refine ⟨1, Nat.le_refl _, rfl, .inr rfl, ?_, HC.out, Wild.Keep.refl _ _ _⟩
    have : sortR (l.take 1) ++ l.drop 1 = l := by
      cases l with
      | nil => rfl
      | cons x l => rfl
    rw [this]; exact HG.out
  case round =>
    obtain ⟨k, hk1, rfl, hk2, hI⟩ := hrel
    have HI := Lib.hid hI
    clear hI HG HC
    by_cases hlt : k < l.length
    · go_wp2_with fail
      go_loopw [9] (fun j W => ∃ m : Nat, m ≤ k ∧ j = .int .i64 m ∧ downI l g c k m w W) (fun j _ => (intOf j).toNat)
      case atStart =>
        refine ⟨k, Nat.le_refl _, rfl, sortR (l.take k), [], l[k], ?_, ?_, by simp, ?_, HI.out.2.1, HI.out.2.2⟩
        · rw [sortR_len, List.length_take]; omega
        · rw [List.append_nil, sortR_snoc l k hlt]
        · have := HI.out.1
          rw [List.drop_eq_getElem_cons hlt] at this
          simpa using this
      case round =>
        obtain ⟨m, hm, rfl, P, S, x, hP, hins, hS, hids, hc, hK⟩ := hrel
        clear HI
        have HINS := Lib.hid hins
        have HIDS := Lib.hid hids
        have HC := Lib.hid hc
        have HK := Lib.hid hK
        clear hins hc hK
        obtain _ | j := m
        · have HE := Lib.hid (show P ++ x :: S ++ l.drop (k + 1) = sortR (l.take (k + 1)) ++ l.drop (k + 1) by
            obtain rfl := List.eq_nil_of_length_eq_zero hP
            rw [← HINS.out, insR_nil]; rfl)
          clear hids hP
          have hz : decide ((0 : Int) < ((0 : Nat) : Int)) = false := by decide
          have ez : ((0 : Nat) : Int) = 0 := rfl
          rw [ez]
          clear ez hz
          go_wp2_with fail
          refine wp_region_dep wr.heap.size 17 (by kernel_rfl) (by kernel_rfl) (by rfl) (Nat.le_refl _) ?_
          simp only [List.take_succ_cons, List.take_zero, List.drop_succ_cons, List.drop_zero]
          iterate 17 (refine wpDep_plain (by rfl) (fun K hK => ?_); go_simp; (refine hK _ ?_; clear hK K))
          refine wpDep_nil ?_
          intro f m0 _
          simp only [fillV]
          have J1 := Lib.hid (ids_below HIDS.out m0.h HIDS.out.1)
          have J2 := Lib.hid (holds_below HC.out m0.h HC.out.lt)
          have J3 := Lib.hid (HK.out.trans (Wild.Keep.of_below (m0.h.mono HK.out.size)))
          clear HIDS HC HK
          go_wp2_with fail
          refine ⟨⟨k + 1, by omega, by go_num, .inl hlt, ?_, J2.out, J3.out⟩, ?_⟩
          · rw [← HE.out]; exact J1.out
          · simp [intOf]; omega
        · obtain ⟨P', y, rfl⟩ : ∃ P' y, P = P' ++ [y] := by
            rcases List.eq_nil_or_concat P with e | ⟨P', y, e⟩
            · subst e; simp at hP
            · exact ⟨P', y, by simpa using e⟩
          have hP' : P'.length = j := by simpa using hP
          have hlen : (P' ++ [y] ++ x :: S ++ l.drop (k + 1)).length = l.length := by simp; omega
          have r1 := hids.2 j (by rw [hlen]; omega)
          have r2 := hids.2 (j + 1) (by rw [hlen]; omega)
          rw [mid_at _ _ _ _ _ _ hP'] at r1
          rw [mid_at' _ _ _ _ _ _ hP'] at r2
          obtain ⟨a0, a1, a2, af0, af1, af2⟩ := r1
          obtain ⟨b0, b1, b2, bf0, bf1, bf2⟩ := r2
          have lg := hids.1
          have lc := HC.out.lt
          have HP := Lib.hid hP'
          have HLEN := Lib.hid hlen
          clear hids hP hP' hlen af0 af1 af2 bf0 bf1 bf2
          have ej : ((j + 1 : Nat) : Int) = (j : Int) + 1 := by omega
          rw [ej]
          clear ej
          have w1 : IntKind.i64.wrap (j : Int) = (j : Int) := IntWalk.i64_in _ (by omega)
          have w2 : ((j : Int) + 1).toNat = j + 1 := by omega
          have w3 : (0 : Int) < (j : Int) + 1 := by omega
          have w4 : (0 : Int) ≤ (j : Int) + 1 := by omega
          have w5 : ((j : Int) + 1) < (l.length : Int) := by omega
          have w6 : (j : Int) < (l.length : Int) := by omega
          have w7 : decide ((0 : Int) < (j : Int) + 1) = true := decide_eq_true w3
          have hna := fun (n : Near wr.heap.size wr) (o : Nat) => near_cell wr.heap.size n g o lg
          have hcf := fun (n : Near wr.heap.size wr) => cmpf_any x y c n.u (holds_below HC.out n.h lc)
          have hdec := cf_lt x y
          cases hlt2 : ltId x y with
          | false =>
            rw [hlt2] at hdec
            have HE := Lib.hid (show P' ++ [y] ++ x :: S ++ l.drop (k + 1) = sortR (l.take (k + 1)) ++ l.drop (k + 1) by
              rw [← HINS.out, insR_stop _ _ _ hlt2]; simp)
            clear hlt2
            go_wp2_with fail
            refine wp_region_dep wr.heap.size 17 (by kernel_rfl) (by kernel_rfl) (by rfl) (Nat.le_refl _) ?_
            simp only [List.take_succ_cons, List.take_zero, List.drop_succ_cons, List.drop_zero]
            iterate 14 (refine wpDep_plain (by rfl) (fun K hK => ?_); go_simp; (refine hK _ ?_; clear hK K))
            refine wpDep_plain (by rfl) (fun K hK => ?_); go_simp; refine ⟨_, fun n => callsTo_of (hcf n), ?_⟩; (refine hK _ ?_; clear hK K)
            iterate 2 (refine wpDep_plain (by rfl) (fun K hK => ?_); go_simp; (refine hK _ ?_; clear hK K))
            refine wpDep_nil ?_
            intro f m0 _
            simp only [fillV]
            have J1 := Lib.hid (ids_below HIDS.out m0.h HIDS.out.1)
            have J2 := Lib.hid (holds_below HC.out m0.h HC.out.lt)
            have J3 := Lib.hid (HK.out.trans (Wild.Keep.of_below (m0.h.mono HK.out.size)))
            clear HIDS HC HK hna hcf hdec a0 a1 a2 b0 b1 b2 w1 w2 w3 w4 w5 w6 w7 lg lc
            go_wp2_with fail
            refine ⟨⟨k + 1, by omega, by go_num, .inl hlt, ?_, J2.out, J3.out⟩, ?_⟩
            · rw [← HE.out]; exact J1.out
            · simp [intOf]; omega
          | true =>
            rw [hlt2] at hdec
            have HE := Lib.hid (show insR P' x ++ (y :: S) = sortR (l.take (k + 1)) by
              rw [← HINS.out, insR_go _ _ _ hlt2]; simp)
            clear hlt2
            go_wp2_with fail
            refine wp_region_dep wr.heap.size 17 (by kernel_rfl) (by kernel_rfl) (by rfl) (Nat.le_refl _) ?_
            simp only [List.take_succ_cons, List.take_zero, List.drop_succ_cons, List.drop_zero]
            iterate 14 (refine wpDep_plain (by rfl) (fun K hK => ?_); go_simp; (refine hK _ ?_; clear hK K))
            refine wpDep_plain (by rfl) (fun K hK => ?_); go_simp; refine ⟨_, fun n => callsTo_of (hcf n), ?_⟩; (refine hK _ ?_; clear hK K)
            iterate 2 (refine wpDep_plain (by rfl) (fun K hK => ?_); go_simp; (refine hK _ ?_; clear hK K))
            refine wpDep_nil ?_
            intro f m0 _
            simp only [fillV]
            have J1 := Lib.hid (ids_below HIDS.out m0.h HIDS.out.1)
            have J2 := Lib.hid (holds_below HC.out m0.h HC.out.lt)
            have J3 := Lib.hid (HK.out.trans (Wild.Keep.of_below (m0.h.mono HK.out.size)))
            clear HIDS HC HK hna hcf hdec a0 a1 a2 b0 b1 b2 w7 lg lc
            obtain ⟨V, hV⟩ : ∃ V, m0.u = V := ⟨_, rfl⟩
            rw [hV] at J1 J2 J3
            rw [hV]
            clear hV
            have r1 := J1.out.2 j (by rw [HLEN.out]; omega)
            have r2 := J1.out.2 (j + 1) (by rw [HLEN.out]; omega)
            rw [mid_at _ _ _ _ _ _ HP.out] at r1
            rw [mid_at' _ _ _ _ _ _ HP.out] at r2
            obtain ⟨a0, a1, a2, af0, af1, af2⟩ := r1
            obtain ⟨b0, b1, b2, bf0, bf1, bf2⟩ := r2
            have lg := J1.out.1
            go_wp2_with fail
            go_big_region
            all_goals go_wp2_with fail
            clear a0 a1 a2 b0 b1 b2 af0 af1 af2 bf0 bf1 bf2 w1 w2 w3 w4 w5 w6
            have D1 := ids_set (ids_set J1.out (j + 1) (by rw [HLEN.out]; omega) y) j (by rw [List.length_set, HLEN.out]; omega) x
            rw [mid_swap _ _ _ _ _ _ HP.out] at D1
            have D2 : holds (set3 (set3 V g (j + 1) y) g j x) c [aheadV] := holds_other (holds_other (holds_other (holds_other (holds_other (holds_other J2.out (Ne.symm hgc) _) (Ne.symm hgc) _) (Ne.symm hgc) _) (Ne.symm hgc) _) (Ne.symm hgc) _) (Ne.symm hgc) _
            have D3 := keep_set3 (keep_set3 J3.out (j + 1) y) j x
            refine ⟨⟨j, by omega, rfl, P', y :: S, x, HP.out, HE.out, by simp only [List.length_cons]; omega, ids_below D1 (below_drew _ _) D1.1, holds_below D2 (below_drew _ _) D2.lt, D3.trans (Wild.Keep.of_below (below_drew _ _))⟩, ?_⟩
            simp [intOf]
    · have HF := Lib.hid (show sortR (l.take k) ++ l.drop k = sortR l by
        rw [List.take_of_length_le (by omega), List.drop_of_length_le (by omega), List.append_nil])
      go_wp2_with fail
      exact ⟨rfl, _, results_none rfl _ _ _, rfl, by rw [← HF.out]; exact HI.out.1, HI.out.2.1, HI.out.2.2⟩
end Go.Proofs.Ytjpgabpicfcapaa
