/- The walk of VectorMeets, one of four ways. -/
import Derived.Test.YtjpgabpicfcapaaM5
namespace Go.Proofs.Ytjpgabpicfcapaa
open Go.RowKit

set_option maxRecDepth 4000 in
set_option maxHeartbeats 3000000 in
theorem meets_true_big (v : V) (rv : v.rng) (l : List V) (hl : ∀ u ∈ l, u.rng) (hl6 : l.length ≤ 6) (n : Nat) (hn : l.length = min n 6) (ax : Option Addr) (cap : Nat) (hcap : n ≤ cap) (hmx : cap ≤ maxLen) (hnil : ax = none → cap = 0) (hok : (v.may && allMay l) = true) (hbig : 6 < n) (w : World) (hr : rowVec w ax l) :
    Calls Try.prog 4 #[vec v, .slice ax n cap] w fun e w' => e = .returned (.bool true) ∧ Below w.heap.size w w' := by
  obtain ⟨J, hJ, sJ⟩ := joins_same (fun x y : Int => max x y) (by decide) rv hl hok
  obtain ⟨M, hM, sM⟩ := joins_same (fun x y : Int => min x y) (by decide) rv hl hok
  have hjc := fun (a1 : Option Addr) (c1 : Nat) (W : World) h => join_any v l a1 c1 W h (by omega)
  have hmc := fun (a1 : Option Addr) (c1 : Nat) (W : World) h => meet_any v l a1 c1 W h (by omega)
  have hrj := fun (a1 : Option Addr) (c1 : Nat) (W : World) h => refJoin_any v rv l hl a1 c1 W h hl6
  have hrm := fun (a1 : Option Addr) (c1 : Nat) (W : World) h => refMeet_any v rv l hl a1 c1 W h hl6
  simp only [hJ] at hjc
  simp only [hM] at hmc
  simp only [hok] at hrj hrm
  have qJ : ∀ W, (binOp .neq 24 (vec J) (vec (foldAll (fun x y : Int => max x y) v l))).run Try.prog W = .ok (.bool false) W := fun W => by rw [run_neq_vec, sJ]; rfl
  have qM : ∀ W, (binOp .neq 24 (vec M) (vec (foldAll (fun x y : Int => min x y) v l))).run Try.prog W = .ok (.bool false) W := fun W => by rw [run_neq_vec, sM]; rfl
  generalize foldAll (fun x y : Int => max x y) v l = J' at *
  generalize foldAll (fun x y : Int => min x y) v l = M' at *
  clear sJ sM
  have QJ := Lib.hid qJ
  have QM := Lib.hid qM
  clear qJ qM
  clear hJ hM hok
  have HJC := Lib.hid hjc
  have HMC := Lib.hid hmc
  have HRJ := Lib.hid hrj
  have HRM := Lib.hid hrm
  have HR := Lib.hid hr
  have HV := Lib.hid rv
  have HL := Lib.hid hl
  clear hjc hmc hrj hrm hr rv hl
  have hcl := fun (m : Nat) (hm : l.length = m) (W : World) (h : rowVec W ax l) => cloneV_len l ax cap m hm W h hnil (by omega)
  have HCL := Lib.hid hcl
  unfold maxLen at hmx
  clear hcl hnil
  have hl6' : l.length = 6 := by omega
  have HL6 := Lib.hid hl6'
  clear hl6' hn
  go_enter Try.func4, Try.ntmps4
  go_wp2_with fail
  refine (wakes_any _).mono ?_
  rintro e w1 ⟨rfl, hB⟩
  have hb1 := Lib.hid (show Below w.heap.size w w1 from ((Below.refl _ _).alloc (Nat.le_refl _) _).trans (hB.mono (by simp)))
  have G1 := Lib.hid (show vecIn w1 w.heap.size v from holds_below (vecIn_new w v) hB (by simp))
  have HX := Lib.hid (rowV_below HR.out hb1.out)
  clear hB HR
  go_wp2_with fail
  refine (HCL.out _ HL6.out _ HX.out).mono ?_
  rintro e w2 ⟨a1, c1, rfl, hrow, hB⟩
  have hb2 := Lib.hid (hb1.out.trans (hB.mono hb1.out.size))
  have KA := Lib.hid (show vecIn w2 w.heap.size v from holds_below G1.out hB G1.out.lt)
  have RX := Lib.hid (rowV_below HX.out hB)
  have RL := Lib.hid hrow
  clear hrow hB hb1 G1 HX HCL
  have KB := Lib.hid hb2.out
  clear hb2
  have N2 := Lib.hid (Below.refl w2.heap.size w2)
  have hA0 : vecIn w2 w.heap.size v := holds_below KA.out N2.out KA.out.lt
  obtain ⟨a0, a1, a2, a3, a4, a5, a6, a7, a8⟩ := vecIn.cells hA0
  have la0 := hA0.lt
  clear hA0
  go_wp2_with fail
  refine (HJC.out _ _ _ RL.out).mono ?_
  rintro e w3 ⟨rfl, hB⟩
  clear a0 a1 a2 a3 a4 a5 a6 a7 a8
  have N3 := Lib.hid (show Below w2.heap.size w2 w3 from hB)
  clear hB la0
  have hA1 : vecIn w3 w.heap.size v := holds_below KA.out N3.out KA.out.lt
  obtain ⟨a0, a1, a2, a3, a4, a5, a6, a7, a8⟩ := vecIn.cells hA1
  have la1 := hA1.lt
  clear hA1
  go_wp2_with fail
  refine (HMC.out _ _ _ (rowV_below RL.out (N3.out.alloc N3.out.size _))).mono ?_
  rintro e w4 ⟨rfl, hB⟩
  clear a0 a1 a2 a3 a4 a5 a6 a7 a8
  have hB' : Below w3.heap.size w3 w4 := ((Below.refl _ _).alloc (Nat.le_refl _) _).trans (hB.mono (by simp))
  have N4 := Lib.hid (N3.out.trans (hB'.mono N3.out.size))
  have Fj4 := Lib.hid (show vecIn w4 w3.heap.size J from holds_below (vecIn_new w3 J) hB (by simp))
  clear hB hB' la1 
  have hA2 : vecIn w4 w.heap.size v := holds_below KA.out N4.out KA.out.lt
  obtain ⟨a0, a1, a2, a3, a4, a5, a6, a7, a8⟩ := vecIn.cells hA2
  have la2 := hA2.lt
  clear hA2
  go_wp2_with fail
  refine (HRJ.out _ _ _ (rowV_below RL.out (N4.out.alloc N4.out.size _))).mono ?_
  rintro e w5 ⟨rfl, hB⟩
  clear a0 a1 a2 a3 a4 a5 a6 a7 a8
  have hB' : Below w4.heap.size w4 w5 := ((Below.refl _ _).alloc (Nat.le_refl _) _).trans (hB.mono (by simp))
  have N5 := Lib.hid (N4.out.trans (hB'.mono N4.out.size))
  have Fj5 := Lib.hid (show vecIn w5 (w3.heap.size) J from holds_below Fj4.out hB' Fj4.out.lt)
  have Fm5 := Lib.hid (show vecIn w5 w4.heap.size M from holds_below (vecIn_new w4 M) hB (by simp))
  clear hB hB' la2 Fj4
  have hA3 : vecIn w5 w.heap.size v := holds_below KA.out N5.out KA.out.lt
  obtain ⟨a0, a1, a2, a3, a4, a5, a6, a7, a8⟩ := vecIn.cells hA3
  have la3 := hA3.lt
  clear hA3
  go_wp2_with fail
  refine (HRM.out _ _ _ (rowV_below RL.out (N5.out.alloc N5.out.size _))).mono ?_
  rintro e w6 ⟨rfl, hB⟩
  clear a0 a1 a2 a3 a4 a5 a6 a7 a8
  have hB' : Below w5.heap.size w5 w6 := ((Below.refl _ _).alloc (Nat.le_refl _) _).trans (hB.mono (by simp))
  have N6 := Lib.hid (N5.out.trans (hB'.mono N5.out.size))
  have Fj6 := Lib.hid (show vecIn w6 (w3.heap.size) J from holds_below Fj5.out hB' Fj5.out.lt)
  have Fm6 := Lib.hid (show vecIn w6 (w4.heap.size) M from holds_below Fm5.out hB' Fm5.out.lt)
  have Fp6 := Lib.hid (show vecIn w6 w5.heap.size J' from holds_below (vecIn_new w5 J') hB (by simp))
  clear hB hB' la3 Fj5 Fm5
  have N6z := N6.out.size
  obtain ⟨j0, j1, j2, j3, j4, j5, j6, j7, j8⟩ := vecIn.cells Fj6.out
  have lj := Fj6.out.lt
  obtain ⟨m0, m1, m2, m3, m4, m5, m6, m7, m8⟩ := vecIn.cells Fm6.out
  have lm := Fm6.out.lt
  obtain ⟨p0, p1, p2, p3, p4, p5, p6, p7, p8⟩ := vecIn.cells Fp6.out
  have lp := Fp6.out.lt
  have qJ := QJ.out
  have qM := QM.out
  go_wp2_with fail
  clear lj lm lp qJ qM
  clear j0 j1 j2 j3 j4 j5 j6 j7 j8 m0 m1 m2 m3 m4 m5 m6 m7 m8 p0 p1 p2 p3 p4 p5 p6 p7 p8
  refine name_world (G := fun W => Code.wp _ _ _ _ W) (fun W => Below w2.heap.size w2 W) (N6.out.alloc N6.out.size _) ?_
  clear N6z N6 Fj6 Fm6 Fp6
  rintro w7 hB7
  go_loopw [74] (fun i wr => ∃ k : Nat, k ≤ l.length ∧ i = .int .i64 k ∧ Below w2.heap.size w2 wr) (fun i _ => l.length - (intOf i).toNat)
  case atStart => exact ⟨0, Nat.zero_le _, rfl, hB7⟩
  case round =>
    obtain ⟨k, hk, rfl, hB⟩ := hrel
    clear hB7
    have NB := Lib.hid hB
    have hA : vecIn wr w.heap.size v := holds_below KA.out hB KA.out.lt
    by_cases hlt : k < l.length
    · obtain ⟨p, off, rfl, hc⟩ := (rowV_below RL.out hB).2.resolve_left (by intro e; subst e; simp at hlt)
      have hc0 := row_cells hc k hlt
      have d0 := hc0 0 (by omega)
      have d1 := hc0 1 (by omega)
      have d2 := hc0 2 (by omega)
      have d3 := hc0 3 (by omega)
      have d4 := hc0 4 (by omega)
      have d5 := hc0 5 (by omega)
      have d6 := hc0 6 (by omega)
      have d7 := hc0 7 (by omega)
      have d8 := hc0 8 (by omega)
      simp only [Nat.add_zero] at d0
      have ru := Lib.hid (HL.out l[k] (List.getElem_mem hlt))
      clear hc hc0
      generalize l[k] = u at *
      obtain ⟨a0, a1, a2, a3, a4, a5, a6, a7, a8⟩ := vecIn.cells hA
      have la := hA.lt
      have HA := Lib.hid hA
      clear hA hB
      go_wp2_with fail
      refine (refLacks_any v u HV.out ru.out _).mono ?_
      rintro e w8 ⟨ar2, cr2, rfl, hr2, hB⟩
      clear a0 a1 a2 a3 a4 a5 a6 a7 a8 d0 d1 d2 d3 d4 d5 d6 d7 d8
      have hB' : Below wr.heap.size wr w8 := ((Below.refl _ _).alloc (Nat.le_refl _) _).trans (hB.mono (by simp))
      have N8 := Lib.hid (NB.out.trans (hB'.mono NB.out.size))
      have hA8 : vecIn w8 w.heap.size v := holds_below HA.out hB' HA.out.lt
      have hU8 : vecIn w8 wr.heap.size u := holds_below (vecIn_new wr u) hB (by simp)
      clear hB hB' HA la NB
      have R2 := Lib.hid hr2
      clear hr2
      have hok := lacks_ok v u HV.out
      have hln := lacks_len v u
      have hcv := fun W => covers_any v u W
      have hrc := fun W => refCovers_any v u HV.out ru.out W
      have hlk := fun W => lacks_any v u HV.out W
      have hmy := fun W => many_any v u HV.out W
      obtain ⟨z, hz⟩ : ∃ z, coversB v u = z := ⟨_, rfl⟩
      simp only [hz] at hcv hrc
      clear hz
      generalize lacksL v u = ls at *
      obtain ⟨M0, hM0⟩ : ∃ M0, manyS 0 ls = M0 := ⟨_, rfl⟩
      simp only [hM0] at hmy
      have hry := fun (n : Near w8.heap.size w8) => refMany_any ls hok hln ar2 cr2 n.u (rowV_below R2.out n.h)
      simp only [hM0] at hry
      clear hM0 hok
      have LK := Lib.hid (show ∀ W, Calls Try.prog 28 #[vec v, vec u] W fun e w' => ∃ x, e = .returned x ∧ Below W.heap.size W w' ∧ isRowS ls x w' from fun W => (hlk W).mono fun e w' ⟨a0, cap, he, hr, _, _, _, hb⟩ => ⟨_, he, hb, a0, cap, rfl, hr⟩)
      have HLN := Lib.hid hln
      clear hlk hln
      obtain ⟨a0, a1, a2, a3, a4, a5, a6, a7, a8⟩ := vecIn.cells hA8
      obtain ⟨e0, e1, e2, e3, e4, e5, e6, e7, e8⟩ := vecIn.cells hU8
      have la := hA8.lt
      have lu := hU8.lt
      clear hA8 hU8
      have hna := fun (n : Near w8.heap.size w8) (j : Nat) => near_cell w8.heap.size n w.heap.size j la
      have hnu := fun (n : Near w8.heap.size w8) (j : Nat) => near_cell w8.heap.size n wr.heap.size j lu
      go_wp2_with fail
      refine wp_region_dep w8.heap.size 23 (by kernel_rfl) (by kernel_rfl) (by rfl) (Nat.le_refl _) ?_
      simp only [List.take_succ_cons, List.take_zero, List.drop_succ_cons, List.drop_zero]
      iterate 2 (refine wpDep_plain (by rfl) (fun K hK => ?_); go_simp; (refine hK _ ?_; clear hK K))
      refine wpDep_plain (by rfl) (fun K hK => ?_); go_simp; refine ⟨_, fun n => callsTo_of (hcv _), ?_⟩; (refine hK _ ?_; clear hK K)
      iterate 2 (refine wpDep_plain (by rfl) (fun K hK => ?_); go_simp; (refine hK _ ?_; clear hK K))
      refine wpDep_plain (by rfl) (fun K hK => ?_); go_simp; refine ⟨_, fun n => callsTo_of (hrc _), ?_⟩; (refine hK _ ?_; clear hK K)
      iterate 4 (refine wpDep_plain (by rfl) (fun K hK => ?_); go_simp; (refine hK _ ?_; clear hK K))
      refine wpDep_make (isRowS ls) (by rfl) (by rfl) (isRowS_stays ls) (by rfl) ?_ ?_
      · intro n
        go_simp
        exact LK.out n.u
      iterate 1 (refine wpDep_plain (by rfl) (fun K hK => ?_); go_simp; (refine hK _ ?_; clear hK K))
      refine wpDep_use (t := 91) (List.mem_cons_self ..) (by rfl) (show 91 < 111 by decide) (by rfl) (.bool true) ?_ ?_
      · rintro x n ⟨a3, c3, rfl, h3⟩
        go_simp
        exact callsTo_of (equalS_same ls _ _ _ _ n.u h3 (rowV_below R2.out n.h) (by have := HLN.out; omega))
      iterate 5 (refine wpDep_plain (by rfl) (fun K hK => ?_); go_simp; (refine hK _ ?_; clear hK K))
      refine wpDep_plain (by rfl) (fun K hK => ?_); go_simp; refine ⟨_, fun n => callsTo_of (hmy _), ?_⟩; (refine hK _ ?_; clear hK K)
      iterate 1 (refine wpDep_plain (by rfl) (fun K hK => ?_); go_simp; (refine hK _ ?_; clear hK K))
      refine wpDep_plain (by rfl) (fun K hK => ?_); go_simp; refine ⟨_, fun n => callsTo_of (hry n), ?_⟩; (refine hK _ ?_; clear hK K)
      iterate 2 (refine wpDep_plain (by rfl) (fun K hK => ?_); go_simp; (refine hK _ ?_; clear hK K))
      refine wpDep_nil ?_
      intro f m _
      simp only [fillV]
      have NM := Lib.hid (N8.out.trans (m.h.mono N8.out.size))
      clear hna hnu hcv hrc hmy hry la lu
      clear a0 a1 a2 a3 a4 a5 a6 a7 a8 e0 e1 e2 e3 e4 e5 e6 e7 e8
      go_wp2_with fail
      refine ⟨⟨k + 1, hlt, by go_num, NM.out⟩, ?_⟩
      simp [intOf]; omega
    · obtain rfl : k = l.length := by omega
      have E1 := Lib.hid (rowV_below RL.out hB)
      have E2 := Lib.hid (rowV_below RX.out hB)
      clear hA hB
      have hlc : l.length ≤ cap := by have := HL6.out; omega
      go_wp2_with fail
      refine (equalV_same l _ _ _ _ _ E1.out E2.out (by omega)).mono ?_
      rintro e w9 ⟨rfl, hB⟩
      have HE := Lib.hid (KB.out.trans ((NB.out.trans (hB.mono NB.out.size)).mono KB.out.size))
      go_wp2_with fail
      exact ⟨rfl, _, results_tmp rfl _ _ _, rfl, HE.out⟩
end Go.Proofs.Ytjpgabpicfcapaa
