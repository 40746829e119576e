/- The document's answers of layers 11 and 13: an id that may be; a vector with ids. -/
import Derived.Test.YtjpgabpicfcapaaM2
namespace Go.Proofs.Ytjpgabpicfcapaa
open Go.RowKit

theorem refSite_any (n : Int) (w : World) : Calls Try.prog 33 #[.int .i64 n] w fun e w' => e = .returned (.bool (isSt n)) ∧ w = w' := by
  unfold isSt
  by_cases h1 : 1 ≤ n <;> by_cases h2 : n ≤ 8
  all_goals
    go_enter Try.func33, Try.ntmps33
    go_wp2
    go_ret
    exact ⟨by simp [h1, h2], rfl⟩
theorem num_no1 {n : Int} (h : ¬ 1 ≤ n) : isNum n = false := by unfold isNum; simp [h]
theorem num_no2 {n : Int} (h : ¬ n ≤ 4611686018427387904) : isNum n = false := by unfold isNum; simp [h]
theorem num_yes {n : Int} (h1 : 1 ≤ n) (h2 : n ≤ 4611686018427387904) : isNum n = true := by unfold isNum; simp [h1, h2]
set_option maxHeartbeats 1000000 in
theorem refId_any (i : I3) (w : World) : Calls Try.prog 11 #[i.val] w fun e w' => e = .returned (.bool i.may) ∧ Below w.heap.size w w' := by
  by_cases h1 : 1 ≤ i.t
  · by_cases h2 : i.t ≤ 4611686018427387904
    · cases hs : isSt i.s with
      | false =>
        have H := Lib.hid (show i.may = false by unfold I3.may; rw [num_yes h1 h2, hs]; rfl)
        have HS := Lib.hid hs
        clear hs
        go_enter Try.func11, Try.ntmps11
        go_wp2_with fail
        refine (refSite_any _ _).mono ?_
        rintro e w1 ⟨rfl, rfl⟩
        rw [HS.out]
        go_wp2
        go_ret
        exact ⟨by rw [H.out]; rfl, (Below.refl _ _).alloc (Nat.le_refl _) _⟩
      | true =>
        have HS := Lib.hid hs
        by_cases h3 : 1 ≤ i.q
        · by_cases h4 : i.q ≤ 4611686018427387904
          · have H := Lib.hid (show i.may = true by unfold I3.may; rw [num_yes h1 h2, hs, num_yes h3 h4]; rfl)
            clear hs
            go_enter Try.func11, Try.ntmps11
            go_wp2_with fail
            refine (refSite_any _ _).mono ?_
            rintro e w1 ⟨rfl, rfl⟩
            rw [HS.out]
            go_wp2
            go_ret
            exact ⟨by rw [H.out]; rfl, (Below.refl _ _).alloc (Nat.le_refl _) _⟩
          · have H := Lib.hid (show i.may = false by unfold I3.may; rw [num_no2 h4]; simp)
            have h4' : decide (i.q ≤ 4611686018427387904) = false := decide_eq_false h4
            clear hs
            go_enter Try.func11, Try.ntmps11
            go_wp2_with fail
            refine (refSite_any _ _).mono ?_
            rintro e w1 ⟨rfl, rfl⟩
            rw [HS.out]
            go_wp2
            go_ret
            exact ⟨by rw [H.out]; rfl, (Below.refl _ _).alloc (Nat.le_refl _) _⟩
        · have H := Lib.hid (show i.may = false by unfold I3.may; rw [num_no1 h3]; simp)
          clear hs
          go_enter Try.func11, Try.ntmps11
          go_wp2_with fail
          refine (refSite_any _ _).mono ?_
          rintro e w1 ⟨rfl, rfl⟩
          rw [HS.out]
          go_wp2
          go_ret
          exact ⟨by rw [H.out]; rfl, (Below.refl _ _).alloc (Nat.le_refl _) _⟩
    · have H := Lib.hid (show i.may = false by unfold I3.may; rw [num_no2 h2]; rfl)
      go_enter Try.func11, Try.ntmps11
      go_wp2
      go_ret
      exact ⟨by rw [H.out]; rfl, (Below.refl _ _).alloc (Nat.le_refl _) _⟩
  · have H := Lib.hid (show i.may = false by unfold I3.may; rw [num_no1 h1]; rfl)
    go_enter Try.func11, Try.ntmps11
    go_wp2
    go_ret
    exact ⟨by rw [H.out]; rfl, (Below.refl _ _).alloc (Nat.le_refl _) _⟩

theorem addE_no {v : V} {i : I3} (h : i.may = false) : addE v i = 210 := by unfold addE; rw [h]
theorem addE_there {v : V} {i : I3} (hv : v.may = true) (h : i.may = true) (hle : i.q ≤ v i.s.toNat) : addE v i = 5 := by
  have : hasB v i = true := by unfold hasB; rw [hv, h]; simp [hle]
  unfold addE; rw [h, this]
theorem addE_gap {v : V} {i : I3} (hv : v.may = true) (h : i.may = true) (hgt : v i.s.toNat + 1 < i.q) : addE v i = 231 := by
  have h1 : hasB v i = false := by unfold hasB; rw [hv, h]; simp; omega
  have h2 : nextB v i = false := by unfold nextB; rw [hv, h]; simp; omega
  unfold addE; rw [h, h1, h2]
theorem addE_ok {v : V} {i : I3} (hv : v.may = true) (h : i.may = true) (he : i.q = v i.s.toNat + 1) : addE v i = 0 := by
  have h1 : hasB v i = false := by unfold hasB; rw [hv, h]; simp; omega
  have h2 : nextB v i = true := by unfold nextB; rw [hv, h]; simp [he]
  unfold addE; rw [h, h1, h2]
theorem withS_err {u : V} {l : List I3} {k : Nat} (hk : k < l.length) {n : Int} (h : addE u l[k] = n) (hn : n ≠ 0) : withS u (l.drop k) = (V.zero, n) := by
  rw [List.drop_eq_getElem_cons hk]
  unfold withS
  rw [h, if_neg hn]
theorem withS_ok {u : V} {l : List I3} {k : Nat} (hk : k < l.length) (h : addE u l[k] = 0) : withS u (l.drop k) = withS (u.add l[k]) (l.drop (k + 1)) := by
  rw [List.drop_eq_getElem_cons hk]
  conv => lhs; unfold withS
  rw [if_pos h]

set_option maxRecDepth 4000 in
set_option maxHeartbeats 3000000 in
theorem refWith_any (v : V) (hv : v.rng) (l : List I3) (ad : Option Addr) (cap : Nat) (w : World) (hr : rowV w ad l.length 3 enI l) (hmax : l.length ≤ 9223372036854775807) :
    Calls Try.prog 15 #[vec v, .slice ad l.length cap] w fun e w' => e = .returned (.tuple #[vec (withR v l).1, .int .i64 (withR v l).2]) ∧ Below w.heap.size w w' := by
  have HR := Lib.hid hr
  have HV := Lib.hid hv
  clear hr hv
  cases hm : v.may
  all_goals
    have HM := Lib.hid hm
    clear hm
    go_enter Try.func15, Try.ntmps15
    go_wp2_with fail
    refine (refRight_any v HV.out _).mono ?_
    rintro e w1 ⟨rfl, hB⟩
    rw [HM.out]
    have B1 := Lib.hid (show Below w.heap.size w w1 from (((Below.refl _ _).alloc (Nat.le_refl _) _).alloc (by simp) _).trans (hB.mono (by simp <;> omega)))
    have G := Lib.hid (show vecIn w1 w.heap.size v from holds_below (holds_alloc (vecIn_new w v) _) hB (by simp <;> omega))
    have Z := Lib.hid (show vecIn w1 (w.heap.size + 1) V.zero from by
      have := vecIn_new (w.alloc (.cells (vecA v) 24)) V.zero
      rw [World.size_alloc] at this
      exact holds_below this hB (by simp <;> omega))
    clear hB
  · have HW := Lib.hid (show withR v l = (V.zero, 230) by unfold withR; rw [HM.out])
    obtain ⟨z0, z1, z2, z3, z4, z5, z6, z7, z8⟩ := vecIn.cells Z.out
    have f0 := vecIn.free Z.out 0 (by omega)
    have f1 := vecIn.free Z.out 1 (by omega)
    have f2 := vecIn.free Z.out 2 (by omega)
    have f3 := vecIn.free Z.out 3 (by omega)
    have f4 := vecIn.free Z.out 4 (by omega)
    have f5 := vecIn.free Z.out 5 (by omega)
    have f6 := vecIn.free Z.out 6 (by omega)
    have f7 := vecIn.free Z.out 7 (by omega)
    have f8 := vecIn.free Z.out 8 (by omega)
    go_wp2_with fail
    refine ⟨rfl, .tuple #[zeroV, .int .i64 230], ?_, by rw [HW.out], ?_⟩
    · obtain ⟨m0, m1, m2, m3, m4, m5, m6, m7, m8⟩ := vecIn.cells (vecIn_put9 Z.out V.zero)
      simp [results, Try.results15, go_sem, m0, m1, m2, m3, m4, m5, m6, m7, m8]
    · exact ((((((((B1.out.setCell (p := ⟨w.heap.size + 1, 0, none⟩) (by dsimp only; omega) _).setCell (p := ⟨w.heap.size + 1, 1, none⟩) (by dsimp only; omega) _).setCell (p := ⟨w.heap.size + 1, 2, none⟩) (by dsimp only; omega) _).setCell (p := ⟨w.heap.size + 1, 3, none⟩) (by dsimp only; omega) _).setCell (p := ⟨w.heap.size + 1, 4, none⟩) (by dsimp only; omega) _).setCell (p := ⟨w.heap.size + 1, 5, none⟩) (by dsimp only; omega) _).setCell (p := ⟨w.heap.size + 1, 6, none⟩) (by dsimp only; omega) _).setCell (p := ⟨w.heap.size + 1, 7, none⟩) (by dsimp only; omega) _).setCell (p := ⟨w.heap.size + 1, 8, none⟩) (by dsimp only; omega) _
  · have HW := Lib.hid (show withR v l = withS v l by unfold withR; rw [HM.out])
    go_wp2_with fail
    go_loopw [14] (fun i wr => ∃ k : Nat, k ≤ l.length ∧ i = .int .i64 k ∧ ∃ u : V, u.rng ∧ u.may = true ∧ withS v l = withS u (l.drop k) ∧ vecIn wr w.heap.size u ∧ vecIn wr (w.heap.size + 1) V.zero ∧ Below w.heap.size w wr)
      (fun i _ => l.length - (intOf i).toNat)
    case atStart => exact ⟨0, Nat.zero_le _, rfl, v, HV.out, HM.out, by simp, G.out, Z.out, B1.out⟩
    case round =>
      obtain ⟨k, hk, rfl, u, ru, mu, hS, hg, hz, hB⟩ := hrel
      clear G Z B1
      have HS := Lib.hid hS
      have RU := Lib.hid ru
      have MU := Lib.hid mu
      clear hS ru mu
      by_cases hlt : k < l.length
      · obtain ⟨p, off, rfl, hc⟩ := (rowV_below HR.out hB).2.resolve_left (by intro e; subst e; simp at hlt)
        have d0 := hc.2 k hlt 0 (by omega)
        have d1 := hc.2 k hlt 1 (by omega)
        have d2 := hc.2 k hlt 2 (by omega)
        simp only [enI, List.getElem?_cons_zero, List.getElem?_cons_succ, Nat.add_zero] at d0 d1 d2
        have WE := fun n h hn => withS_err (u := u) (l := l) hlt (n := n) h hn
        have WO := fun h => withS_ok (u := u) (l := l) hlt h
        have HWE := Lib.hid WE
        have HWO := Lib.hid WO
        have hsz := hB.size
        have lg := hg.lt
        have lz := hz.lt
        have G := Lib.hid hg
        have Z := Lib.hid hz
        have HBB := Lib.hid hB
        clear hc WE WO hg hz hB
        generalize l[k] = x at *
        go_wp2_with fail
        refine (refId_any x _).mono ?_
        rintro e w5 ⟨rfl, hB⟩
        clear d0 d1 d2
        have hB' : Below wr.heap.size wr w5 := ((Below.refl _ _).alloc (Nat.le_refl _) _).trans (hB.mono (by simp))
        have G5 := Lib.hid (show vecIn w5 w.heap.size u from holds_below G.out hB' lg)
        have Z5 := Lib.hid (show vecIn w5 (w.heap.size + 1) V.zero from holds_below Z.out hB' lz)
        have B5 := Lib.hid (HBB.out.trans (hB'.mono hsz))
        have X5 := Lib.hid (show holds w5 wr.heap.size (enI x) from holds_below (holds_new wr _ 29) hB (by simp))
        clear hB hB' G Z HBB hsz lg lz
        cases hx : x.may with
        | false =>
          have HE := Lib.hid (show withR v l = (V.zero, 210) by rw [HW.out, HS.out]; exact HWE.out 210 (addE_no hx) (by decide))
          clear hx
          obtain ⟨z0, z1, z2, z3, z4, z5, z6, z7, z8⟩ := vecIn.cells Z5.out
          have f0 := vecIn.free Z5.out 0 (by omega)
          have f1 := vecIn.free Z5.out 1 (by omega)
          have f2 := vecIn.free Z5.out 2 (by omega)
          have f3 := vecIn.free Z5.out 3 (by omega)
          have f4 := vecIn.free Z5.out 4 (by omega)
          have f5 := vecIn.free Z5.out 5 (by omega)
          have f6 := vecIn.free Z5.out 6 (by omega)
          have f7 := vecIn.free Z5.out 7 (by omega)
          have f8 := vecIn.free Z5.out 8 (by omega)
          go_wp2_with fail
          refine ⟨rfl, .tuple #[zeroV, .int .i64 210], ?_, by rw [HE.out], ?_⟩
          · obtain ⟨m0, m1, m2, m3, m4, m5, m6, m7, m8⟩ := vecIn.cells (vecIn_put9 Z5.out V.zero)
            simp [results, Try.results15, go_sem, m0, m1, m2, m3, m4, m5, m6, m7, m8]
          · exact ((((((((B5.out.setCell (p := ⟨w.heap.size + 1, 0, none⟩) (by dsimp only; omega) _).setCell (p := ⟨w.heap.size + 1, 1, none⟩) (by dsimp only; omega) _).setCell (p := ⟨w.heap.size + 1, 2, none⟩) (by dsimp only; omega) _).setCell (p := ⟨w.heap.size + 1, 3, none⟩) (by dsimp only; omega) _).setCell (p := ⟨w.heap.size + 1, 4, none⟩) (by dsimp only; omega) _).setCell (p := ⟨w.heap.size + 1, 5, none⟩) (by dsimp only; omega) _).setCell (p := ⟨w.heap.size + 1, 6, none⟩) (by dsimp only; omega) _).setCell (p := ⟨w.heap.size + 1, 7, none⟩) (by dsimp only; omega) _).setCell (p := ⟨w.heap.size + 1, 8, none⟩) (by dsimp only; omega) _
        | true =>
          obtain ⟨st, hst, s1, s8⟩ := may_site hx
          have hqn := may_num hx
          obtain ⟨xt, xs, xq⟩ := x
          dsimp only at hst hqn
          subst hst
          have HX := Lib.hid hx
          clear hx
          have hua := (RU.out st (by omega)).1
          have hub := may_le MU.out st (by omega)
          have E5 := X5.out
          have e0 := E5.cell 0 (by simp)
          have e1 := E5.cell 1 (by simp)
          have e2 := E5.cell 2 (by simp)
          simp only [enI, List.getElem_cons_zero, List.getElem_cons_succ] at e0 e1 e2
          have lx := E5.lt
          have ck := vecIn.at G5.out st (by omega)
          have lg := G5.out.lt
          have kk : (st : Int) < 9 := by omega
          clear E5
          have hnx := fun (n : Near w5.heap.size w5) (j : Nat) => near_cell w5.heap.size n wr.heap.size j lx
          have hng := fun (n : Near w5.heap.size w5) (j : Nat) => near_cell w5.heap.size n w.heap.size j lg
          have hw1 : IntKind.u64.wrap (u st + 1) = u st + 1 := IntWalk.u64_in _ (by omega)
          have ts : ((st : Int)).toNat = st := by simp
          by_cases hle : xq ≤ u st
          · have hd : decide (xq ≤ u st) = true := decide_eq_true hle
            have HE := Lib.hid (show withR v l = (V.zero, 5) by rw [HW.out, HS.out]; exact HWE.out 5 (addE_there MU.out HX.out (by dsimp only; rw [ts]; exact hle)) (by decide))
            clear ts
            go_wp2_with fail
            refine wp_region_dep w5.heap.size 8 (by kernel_rfl) (by kernel_rfl) (by rfl) (Nat.le_refl _) ?_
            simp only [List.take_succ_cons, List.take_zero, List.drop_succ_cons, List.drop_zero]
            iterate 8 (refine wpDep_plain (by rfl) (fun K hK => ?_); go_simp; (refine hK _ ?_; clear hK K))
            refine wpDep_nil ?_
            intro f m _
            simp only [fillV]
            have G6 := Lib.hid (show vecIn m.u w.heap.size u from holds_below G5.out m.h G5.out.lt)
            have Z6 := Lib.hid (show vecIn m.u (w.heap.size + 1) V.zero from holds_below Z5.out m.h Z5.out.lt)
            have X6 := Lib.hid (show holds m.u wr.heap.size (enI ⟨xt, st, xq⟩) from holds_below X5.out m.h X5.out.lt)
            have B6 := Lib.hid (B5.out.trans (m.h.mono B5.out.size))
            clear G5 Z5 X5 B5 hnx hng e0 e1 e2 ck lx lg
            obtain ⟨y6, hy6⟩ : ∃ y, m.u = y := ⟨_, rfl⟩
            rw [hy6] at G6 Z6 X6 B6
            rw [hy6]
            clear hy6
            obtain ⟨z0, z1, z2, z3, z4, z5, z6, z7, z8⟩ := vecIn.cells Z6.out
            have f0 := vecIn.free Z6.out 0 (by omega)
            have f1 := vecIn.free Z6.out 1 (by omega)
            have f2 := vecIn.free Z6.out 2 (by omega)
            have f3 := vecIn.free Z6.out 3 (by omega)
            have f4 := vecIn.free Z6.out 4 (by omega)
            have f5 := vecIn.free Z6.out 5 (by omega)
            have f6 := vecIn.free Z6.out 6 (by omega)
            have f7 := vecIn.free Z6.out 7 (by omega)
            have f8 := vecIn.free Z6.out 8 (by omega)
            go_wp2_with fail
            refine ⟨rfl, .tuple #[zeroV, .int .i64 5], ?_, by rw [HE.out], ?_⟩
            · obtain ⟨m0, m1, m2, m3, m4, m5, m6, m7, m8⟩ := vecIn.cells (vecIn_put9 Z6.out V.zero)
              simp [results, Try.results15, go_sem, m0, m1, m2, m3, m4, m5, m6, m7, m8]
            · exact ((((((((B6.out.setCell (p := ⟨w.heap.size + 1, 0, none⟩) (by dsimp only; omega) _).setCell (p := ⟨w.heap.size + 1, 1, none⟩) (by dsimp only; omega) _).setCell (p := ⟨w.heap.size + 1, 2, none⟩) (by dsimp only; omega) _).setCell (p := ⟨w.heap.size + 1, 3, none⟩) (by dsimp only; omega) _).setCell (p := ⟨w.heap.size + 1, 4, none⟩) (by dsimp only; omega) _).setCell (p := ⟨w.heap.size + 1, 5, none⟩) (by dsimp only; omega) _).setCell (p := ⟨w.heap.size + 1, 6, none⟩) (by dsimp only; omega) _).setCell (p := ⟨w.heap.size + 1, 7, none⟩) (by dsimp only; omega) _).setCell (p := ⟨w.heap.size + 1, 8, none⟩) (by dsimp only; omega) _
          · have hd : decide (xq ≤ u st) = false := decide_eq_false hle
            have TS := Lib.hid ts
            clear ts
            go_wp2_with fail
            refine wp_region_dep w5.heap.size 8 (by kernel_rfl) (by kernel_rfl) (by rfl) (Nat.le_refl _) ?_
            simp only [List.take_succ_cons, List.take_zero, List.drop_succ_cons, List.drop_zero]
            iterate 8 (refine wpDep_plain (by rfl) (fun K hK => ?_); go_simp; (refine hK _ ?_; clear hK K))
            refine wpDep_nil ?_
            intro f m _
            simp only [fillV]
            have G6 := Lib.hid (show vecIn m.u w.heap.size u from holds_below G5.out m.h G5.out.lt)
            have Z6 := Lib.hid (show vecIn m.u (w.heap.size + 1) V.zero from holds_below Z5.out m.h Z5.out.lt)
            have X6 := Lib.hid (show holds m.u wr.heap.size (enI ⟨xt, st, xq⟩) from holds_below X5.out m.h X5.out.lt)
            have B6 := Lib.hid (B5.out.trans (m.h.mono B5.out.size))
            clear G5 Z5 X5 B5 hnx hng e0 e1 e2 ck lx lg
            obtain ⟨y6, hy6⟩ : ∃ y, m.u = y := ⟨_, rfl⟩
            rw [hy6] at G6 Z6 X6 B6
            rw [hy6]
            clear hy6
            have E := X6.out
            have e0 := E.cell 0 (by simp)
            have e1 := E.cell 1 (by simp)
            have e2 := E.cell 2 (by simp)
            simp only [enI, List.getElem_cons_zero, List.getElem_cons_succ] at e0 e1 e2
            have lx := E.lt
            have ck := vecIn.at G6.out st (by omega)
            have lg := G6.out.lt
            clear E
            have hnx := fun (n : Near y6.heap.size y6) (j : Nat) => near_cell y6.heap.size n wr.heap.size j lx
            have hng := fun (n : Near y6.heap.size y6) (j : Nat) => near_cell y6.heap.size n w.heap.size j lg
            by_cases hgt : u st + 1 < xq
            · have hd2 : decide (u st + 1 < xq) = true := decide_eq_true hgt
              have HE := Lib.hid (show withR v l = (V.zero, 231) by rw [HW.out, HS.out]; exact HWE.out 231 (addE_gap MU.out HX.out (by dsimp only; rw [TS.out]; exact hgt)) (by decide))
              go_wp2_with fail
              refine wp_region_dep y6.heap.size 9 (by kernel_rfl) (by kernel_rfl) (by rfl) (Nat.le_refl _) ?_
              simp only [List.take_succ_cons, List.take_zero, List.drop_succ_cons, List.drop_zero]
              iterate 9 (refine wpDep_plain (by rfl) (fun K hK => ?_); go_simp; (refine hK _ ?_; clear hK K))
              refine wpDep_nil ?_
              intro f m _
              simp only [fillV]
              have G7 := Lib.hid (show vecIn m.u w.heap.size u from holds_below G6.out m.h G6.out.lt)
              have Z7 := Lib.hid (show vecIn m.u (w.heap.size + 1) V.zero from holds_below Z6.out m.h Z6.out.lt)
              have X7 := Lib.hid (show holds m.u wr.heap.size (enI ⟨xt, st, xq⟩) from holds_below X6.out m.h X6.out.lt)
              have B7 := Lib.hid (B6.out.trans (m.h.mono B6.out.size))
              clear G6 Z6 X6 B6 hnx hng e0 e1 e2 ck lx lg
              obtain ⟨y7, hy7⟩ : ∃ y, m.u = y := ⟨_, rfl⟩
              rw [hy7] at G7 Z7 X7 B7
              rw [hy7]
              clear hy7
              obtain ⟨z0, z1, z2, z3, z4, z5, z6, z7, z8⟩ := vecIn.cells Z7.out
              have f0 := vecIn.free Z7.out 0 (by omega)
              have f1 := vecIn.free Z7.out 1 (by omega)
              have f2 := vecIn.free Z7.out 2 (by omega)
              have f3 := vecIn.free Z7.out 3 (by omega)
              have f4 := vecIn.free Z7.out 4 (by omega)
              have f5 := vecIn.free Z7.out 5 (by omega)
              have f6 := vecIn.free Z7.out 6 (by omega)
              have f7 := vecIn.free Z7.out 7 (by omega)
              have f8 := vecIn.free Z7.out 8 (by omega)
              go_wp2_with fail
              refine ⟨rfl, .tuple #[zeroV, .int .i64 231], ?_, by rw [HE.out], ?_⟩
              · obtain ⟨m0, m1, m2, m3, m4, m5, m6, m7, m8⟩ := vecIn.cells (vecIn_put9 Z7.out V.zero)
                simp [results, Try.results15, go_sem, m0, m1, m2, m3, m4, m5, m6, m7, m8]
              · exact ((((((((B7.out.setCell (p := ⟨w.heap.size + 1, 0, none⟩) (by dsimp only; omega) _).setCell (p := ⟨w.heap.size + 1, 1, none⟩) (by dsimp only; omega) _).setCell (p := ⟨w.heap.size + 1, 2, none⟩) (by dsimp only; omega) _).setCell (p := ⟨w.heap.size + 1, 3, none⟩) (by dsimp only; omega) _).setCell (p := ⟨w.heap.size + 1, 4, none⟩) (by dsimp only; omega) _).setCell (p := ⟨w.heap.size + 1, 5, none⟩) (by dsimp only; omega) _).setCell (p := ⟨w.heap.size + 1, 6, none⟩) (by dsimp only; omega) _).setCell (p := ⟨w.heap.size + 1, 7, none⟩) (by dsimp only; omega) _).setCell (p := ⟨w.heap.size + 1, 8, none⟩) (by dsimp only; omega) _
            · have hd2 : decide (u st + 1 < xq) = false := decide_eq_false hgt
              have hA := Lib.hid (show addE u ⟨xt, st, xq⟩ = 0 from addE_ok MU.out HX.out (by dsimp only; rw [TS.out]; omega))
              have hR2 := Lib.hid (add_rng RU.out MU.out hA.out)
              have hQ := Lib.hid (show u.add ⟨xt, st, xq⟩ = u.set st xq by unfold V.add; dsimp only; rw [TS.out]; congr 1; omega)
              go_wp2_with fail
              refine wp_region_dep y6.heap.size 9 (by kernel_rfl) (by kernel_rfl) (by rfl) (Nat.le_refl _) ?_
              simp only [List.take_succ_cons, List.take_zero, List.drop_succ_cons, List.drop_zero]
              iterate 9 (refine wpDep_plain (by rfl) (fun K hK => ?_); go_simp; (refine hK _ ?_; clear hK K))
              refine wpDep_nil ?_
              intro f m _
              simp only [fillV]
              have G7 := Lib.hid (show vecIn m.u w.heap.size u from holds_below G6.out m.h G6.out.lt)
              have Z7 := Lib.hid (show vecIn m.u (w.heap.size + 1) V.zero from holds_below Z6.out m.h Z6.out.lt)
              have X7 := Lib.hid (show holds m.u wr.heap.size (enI ⟨xt, st, xq⟩) from holds_below X6.out m.h X6.out.lt)
              have B7 := Lib.hid (B6.out.trans (m.h.mono B6.out.size))
              clear G6 Z6 X6 B6 hnx hng e0 e1 e2 ck lx lg
              obtain ⟨y7, hy7⟩ : ∃ y, m.u = y := ⟨_, rfl⟩
              rw [hy7] at G7 Z7 X7 B7
              rw [hy7]
              clear hy7
              have E := X7.out
              have e0 := E.cell 0 (by simp)
              have e1 := E.cell 1 (by simp)
              have e2 := E.cell 2 (by simp)
              simp only [enI, List.getElem_cons_zero, List.getElem_cons_succ] at e0 e1 e2
              have lx := E.lt
              have ck := vecIn.at G7.out st (by omega)
              have lg := G7.out.lt
              clear E
              have fk := vecIn.free G7.out st (by omega)
              go_wp2_with fail
              refine ⟨⟨k + 1, hlt, by go_num, u.set st xq, by rw [← hQ.out]; exact hR2.out.1, by rw [← hQ.out]; exact hR2.out.2, by rw [HS.out, ← hQ.out]; exact HWO.out hA.out, vecIn_set G7.out st (by omega) xq, holds_other Z7.out (by omega) _, B7.out.setCell (Nat.le_refl _) _⟩, ?_⟩
              simp [intOf]; omega
      · obtain rfl : k = l.length := by omega
        have HE := Lib.hid (show withR v l = (u, 0) by rw [HW.out, HS.out, List.drop_length]; rfl)
        obtain ⟨a0, a1, a2, a3, a4, a5, a6, a7, a8⟩ := vecIn.cells hg
        obtain ⟨z0, z1, z2, z3, z4, z5, z6, z7, z8⟩ := vecIn.cells hz
        have f0 := vecIn.free hz 0 (by omega)
        have f1 := vecIn.free hz 1 (by omega)
        have f2 := vecIn.free hz 2 (by omega)
        have f3 := vecIn.free hz 3 (by omega)
        have f4 := vecIn.free hz 4 (by omega)
        have f5 := vecIn.free hz 5 (by omega)
        have f6 := vecIn.free hz 6 (by omega)
        have f7 := vecIn.free hz 7 (by omega)
        have f8 := vecIn.free hz 8 (by omega)
        have Z := Lib.hid hz
        have BB := Lib.hid hB
        clear hg hz hB
        go_wp2_with fail
        clear a0 a1 a2 a3 a4 a5 a6 a7 a8 z0 z1 z2 z3 z4 z5 z6 z7 z8 f0 f1 f2 f3 f4 f5 f6 f7 f8
        refine ⟨rfl, .tuple #[vec u, .int .i64 0], ?_, by rw [HE.out], ?_⟩
        · obtain ⟨m0, m1, m2, m3, m4, m5, m6, m7, m8⟩ := vecIn.cells (vecIn_put9 Z.out u)
          simp [results, Try.results15, go_sem, m0, m1, m2, m3, m4, m5, m6, m7, m8]
        · exact ((((((((BB.out.setCell (p := ⟨w.heap.size + 1, 0, none⟩) (by dsimp only; omega) _).setCell (p := ⟨w.heap.size + 1, 1, none⟩) (by dsimp only; omega) _).setCell (p := ⟨w.heap.size + 1, 2, none⟩) (by dsimp only; omega) _).setCell (p := ⟨w.heap.size + 1, 3, none⟩) (by dsimp only; omega) _).setCell (p := ⟨w.heap.size + 1, 4, none⟩) (by dsimp only; omega) _).setCell (p := ⟨w.heap.size + 1, 5, none⟩) (by dsimp only; omega) _).setCell (p := ⟨w.heap.size + 1, 6, none⟩) (by dsimp only; omega) _).setCell (p := ⟨w.heap.size + 1, 7, none⟩) (by dsimp only; omega) _).setCell (p := ⟨w.heap.size + 1, 8, none⟩) (by dsimp only; omega) _
end Go.Proofs.Ytjpgabpicfcapaa
