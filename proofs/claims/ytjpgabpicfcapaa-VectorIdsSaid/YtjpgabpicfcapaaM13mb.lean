/- The walk of VectorIds, one of four ways; the document's Sorted as a premise. -/
import Derived.Test.YtjpgabpicfcapaaM13
namespace Go.Proofs.Ytjpgabpicfcapaa
open Go.RowKit

set_option maxRecDepth 4000 in
set_option maxHeartbeats 3000000 in
theorem ids_may_big (v : V) (rv : v.rng) (mv : v.may = true) (l : List I3) (hl12 : l.length ≤ 12) (n : Nat) (hn : l.length = min n 12) (hbig : 12 < n) (ax : Option Addr) (cap : Nat) (hcap : n ≤ cap) (hmx : cap ≤ maxLen) (hnil : ax = none → cap = 0) (w : World) (hr : rowV w ax l.length 3 enI l)
    (hrs : ∀ (a0 : Option Addr) (c : Nat) (W : World), rowV W a0 l.length 3 enI l → (a0 = none → c = 0) → Calls Try.prog 17 #[.slice a0 l.length c] W fun e w' => ∃ a1 c1, e = .returned (.slice a1 l.length c1) ∧ rowV w' a1 l.length 3 enI (sortR l) ∧ Below W.heap.size W w') :
    Calls Try.prog 3 #[vec v, .slice ax n cap] w fun e w' => e = .returned (.bool true) ∧ Below w.heap.size w w' := by
  have hl' : l.length = 12 := by omega
  have HL := Lib.hid hl'
  have HR := Lib.hid hr
  have HRV := Lib.hid rv
  have HRS := Lib.hid hrs
  have HMV := Lib.hid mv
  have hcl := fun (m : Nat) (hm : l.length = m) (W : World) h => cloneI_len l ax cap m hm W h hnil (by omega)
  have HCL := Lib.hid hcl
  have hrr := fun W => refRight_any v rv W
  have hck := fun W => check_any v W
  simp only [mv, errOr] at hrr hck
  have HRR := Lib.hid hrr
  have HCK := Lib.hid hck
  have HHAS := Lib.hid (fun (x : I3) W => has_any v x rv W)
  have HNEXT := Lib.hid (fun (x : I3) W => next_any v x rv W)
  have HW1 := Lib.hid (fun (x : I3) W g h => with_one v rv x W g h)
  have HW2 := Lib.hid (fun (x : I3) W g h => refWith_one v rv x W g h)
  have hwl := fun (a1 : Option Addr) (c1 : Nat) (W : World) h => with_any v rv l a1 c1 W h (by omega)
  have hrl := fun (a1 : Option Addr) (c1 : Nat) (W : World) h => refWith_any v rv l a1 c1 W h (by omega)
  have hof := fun (a1 : Option Addr) (c1 : Nat) (W : World) h hc => of_any l (by omega) a1 c1 W h hc
  have hrz := fun (a1 : Option Addr) (c1 : Nat) (W : World) (h : rowV W a1 l.length 3 enI (sortR l)) => refWith_any V.zero rng_zero (sortR l) a1 c1 W (by rw [sortR_len]; exact h) (by rw [sortR_len]; omega)
  simp only [sortR_len] at hrz
  generalize withR v l = RA at *
  generalize withR V.zero (sortR l) = RB at *
  have HWL := Lib.hid hwl
  have HRL := Lib.hid hrl
  have HOF := Lib.hid hof
  have HRZ := Lib.hid hrz
  unfold maxLen at hmx
  clear hwl hrl hof hrz hrr hck hcl hr rv hrs mv hl' hn hnil
  go_enter Try.func3, Try.ntmps3
  go_wp2_with fail
  refine (wakes_any _).mono ?_
  rintro e w1 ⟨rfl, hB⟩
  have B1 := Lib.hid (show Below w.heap.size w w1 from ((Below.refl _ _).alloc (Nat.le_refl _) _).trans (hB.mono (by simp)))
  have G1 := Lib.hid (show vecIn w1 w.heap.size v from holds_below (vecIn_new w v) hB (by simp))
  have X1 := Lib.hid (rowV_below HR.out B1.out)
  clear hB HR
  go_wp2_with fail
  refine (HCL.out _ HL.out _ X1.out).mono ?_
  rintro e w2 ⟨a1, c1, rfl, hrow, hnil1, hB⟩
  have KB := Lib.hid (B1.out.trans (hB.mono B1.out.size))
  have KA := Lib.hid (show vecIn w2 w.heap.size v from holds_below G1.out hB G1.out.lt)
  have RX := Lib.hid (rowV_below X1.out hB)
  have RL := Lib.hid hrow
  have HN1 := Lib.hid hnil1
  clear hrow hB B1 G1 X1 HCL hnil1
  obtain ⟨z0, z1, z2, z3, z4, z5, z6, z7, z8⟩ := vecIn.cells KA.out
  go_wp2_with fail
  refine (HRR.out _).mono ?_
  rintro e w3 ⟨rfl, hB⟩
  clear z0 z1 z2 z3 z4 z5 z6 z7 z8
  have N3 := Lib.hid (show Below w2.heap.size w2 w3 from hB)
  have A3 := Lib.hid (show vecIn w3 w.heap.size v from holds_below KA.out hB KA.out.lt)
  clear hB
  obtain ⟨z0, z1, z2, z3, z4, z5, z6, z7, z8⟩ := vecIn.cells A3.out
  go_wp2_with fail
  refine (HCK.out _).mono ?_
  rintro e w4 ⟨rfl, hB⟩
  clear z0 z1 z2 z3 z4 z5 z6 z7 z8
  have N4 := Lib.hid (N3.out.trans (hB.mono N3.out.size))
  clear hB N3 A3
  go_wp2_with fail
  go_loopw [49] (fun i wr => ∃ k : Nat, k ≤ l.length ∧ i = .int .i64 k ∧ Below w2.heap.size w2 wr) (fun i _ => l.length - (intOf i).toNat)
  case atStart => exact ⟨0, Nat.zero_le _, rfl, N4.out⟩
  case round =>
    obtain ⟨k, hk, rfl, hB⟩ := hrel
    clear N4
    have NB := Lib.hid hB
    have hA : vecIn wr w.heap.size v := holds_below KA.out hB KA.out.lt
    have HA := Lib.hid hA
    have la := hA.lt
    by_cases hlt : k < l.length
    · obtain ⟨p, off, rfl, hc⟩ := (rowV_below RL.out hB).2.resolve_left (by intro e; subst e; simp at hlt)
      have d0 := hc.2 k hlt 0 (by omega)
      have d1 := hc.2 k hlt 1 (by omega)
      have d2 := hc.2 k hlt 2 (by omega)
      simp only [enI, List.getElem?_cons_zero, List.getElem?_cons_succ, Nat.add_zero] at d0 d1 d2
      clear hc hA hB
      generalize l[k] = x at *
      obtain ⟨z0, z1, z2, z3, z4, z5, z6, z7, z8⟩ := vecIn.cells HA.out
      go_wp2_with fail
      refine (refId_any x _).mono ?_
      rintro e y ⟨rfl, hB⟩
      clear z0 z1 z2 z3 z4 z5 z6 z7 z8
      clear d0 d1 d2
      have hB' : Below wr.heap.size wr y := ((Below.refl _ _).alloc (Nat.le_refl _) _).trans (hB.mono (by simp))
      have GY := Lib.hid (show vecIn y w.heap.size v from holds_below HA.out hB' la)
      have XY := Lib.hid (show holds y wr.heap.size (enI x) from holds_below (holds_new wr _ 29) hB (by simp))
      have BY := Lib.hid (NB.out.trans (hB'.mono NB.out.size))
      clear hB hB' HA NB la
      have hhas := HHAS.out x
      have hnext := HNEXT.out x
      cases hx : x.may with
      | false =>
        obtain ⟨h1, h2⟩ := has_no (v := v) (.inr hx)
        simp only [h1] at hhas
        simp only [h2] at hnext
        clear h1 h2 hx
        have E := XY.out
        have e0 := E.cell 0 (by simp)
        have e1 := E.cell 1 (by simp)
        have e2 := E.cell 2 (by simp)
        simp only [enI, List.getElem_cons_zero, List.getElem_cons_succ] at e0 e1 e2
        have lx := E.lt
        have lg := GY.out.lt
        clear E
        obtain ⟨z0, z1, z2, z3, z4, z5, z6, z7, z8⟩ := vecIn.cells GY.out
        have hnx := fun (n : Near y.heap.size y) (j : Nat) => near_cell y.heap.size n wr.heap.size j lx
        have hng := fun (n : Near y.heap.size y) (j : Nat) => near_cell y.heap.size n w.heap.size j lg
        go_wp2_with fail
        refine wp_region_dep y.heap.size 31 (by kernel_rfl) (by kernel_rfl) (by rfl) (Nat.le_refl _) ?_
        simp only [List.take_succ_cons, List.take_zero, List.drop_succ_cons, List.drop_zero]
        iterate 2 (refine wpDep_plain (by rfl) (fun K hK => ?_); go_simp; (refine hK _ ?_; clear hK K))
        refine wpDep_plain (by rfl) (fun K hK => ?_); go_simp; refine ⟨_, fun n => callsTo_of (hhas _), ?_⟩; (refine hK _ ?_; clear hK K)
        iterate 14 (refine wpDep_plain (by rfl) (fun K hK => ?_); go_simp; (refine hK _ ?_; clear hK K))
        refine wpDep_plain (by rfl) (fun K hK => ?_); go_simp; refine ⟨_, fun n => callsTo_of (hnext _), ?_⟩; (refine hK _ ?_; clear hK K)
        iterate 13 (refine wpDep_plain (by rfl) (fun K hK => ?_); go_simp; (refine hK _ ?_; clear hK K))
        refine wpDep_nil ?_
        intro f m _
        simp only [fillV]
        have GZ := Lib.hid (show vecIn m.u w.heap.size v from holds_below GY.out m.h GY.out.lt)
        have XZ := Lib.hid (show holds m.u wr.heap.size (enI x) from holds_below XY.out m.h XY.out.lt)
        have BZ := Lib.hid (BY.out.trans (m.h.mono BY.out.size))
        clear GY XY BY hnx hng e0 e1 e2 lx lg hhas hnext 
        clear z0 z1 z2 z3 z4 z5 z6 z7 z8
        obtain ⟨q, hq⟩ : ∃ q, m.u = q := ⟨_, rfl⟩
        rw [hq] at GZ XZ BZ
        rw [hq]
        clear hq
        obtain ⟨R, hR⟩ : ∃ R, withR v [x] = R := ⟨_, rfl⟩
        have hw1 := HW1.out x
        have hw2 := HW2.out x
        simp only [hR] at hw1 hw2
        clear hR
        have KW1 := Lib.hid hw1
        have KW2 := Lib.hid hw2
        clear hw1 hw2
        have E := XZ.out
        have e0 := E.cell 0 (by simp)
        have e1 := E.cell 1 (by simp)
        have e2 := E.cell 2 (by simp)
        simp only [enI, List.getElem_cons_zero, List.getElem_cons_succ] at e0 e1 e2
        clear E
        obtain ⟨z0, z1, z2, z3, z4, z5, z6, z7, z8⟩ := vecIn.cells GZ.out
        go_wp2_with fail
        refine (KW1.out _ _ (blockIs_new q _ _)).mono ?_
        rintro e q1 ⟨rfl, hB⟩
        clear z0 z1 z2 z3 z4 z5 z6 z7 z8
        clear e0 e1 e2
        have hB' : Below q.heap.size q q1 := ((Below.refl _ _).alloc (Nat.le_refl _) _).trans (hB.mono (by simp))
        have G1 := Lib.hid (show vecIn q1 w.heap.size v from holds_below GZ.out hB' GZ.out.lt)
        have X1 := Lib.hid (show holds q1 wr.heap.size (enI x) from holds_below XZ.out hB' XZ.out.lt)
        have B1 := Lib.hid (BZ.out.trans (hB'.mono BZ.out.size))
        clear hB hB' GZ XZ BZ
        have E := X1.out
        have e0 := E.cell 0 (by simp)
        have e1 := E.cell 1 (by simp)
        have e2 := E.cell 2 (by simp)
        simp only [enI, List.getElem_cons_zero, List.getElem_cons_succ] at e0 e1 e2
        have l1 := E.lt
        have l2 := G1.out.lt
        clear E
        obtain ⟨z0, z1, z2, z3, z4, z5, z6, z7, z8⟩ := vecIn.cells G1.out
        go_wp2_with fail
        have hbk : blockIs ((q1.alloc (.cells (vecA R.1) 24)).alloc (.cells #[.int .u64 x.t, .int .i64 x.s, .int .u64 x.q] 29)) (q1.heap.size + 1) #[.int .u64 x.t, .int .i64 x.s, .int .u64 x.q] 29 := by
          have := blockIs_new (q1.alloc (.cells (vecA R.1) 24)) #[.int .u64 x.t, .int .i64 x.s, .int .u64 x.q] 29
          rwa [World.size_alloc] at this
        refine (KW2.out _ _ hbk).mono ?_
        clear hbk
        rintro e q2 ⟨rfl, hB⟩
        clear z0 z1 z2 z3 z4 z5 z6 z7 z8
        clear e0 e1 e2 l1 l2
        have T2 := Lib.hid (show vecIn q2 q1.heap.size R.1 from holds_below (holds_alloc (vecIn_new q1 R.1) _) hB (by simp <;> omega))
        have B2 := Lib.hid (B1.out.trans (((((Below.refl q1.heap.size q1).alloc (Nat.le_refl _) _).alloc (by simp) _).trans (hB.mono (by simp <;> omega))).mono B1.out.size))
        clear hB G1 X1 B1
        have lt2 := T2.out.lt
        have lb2 := B2.out.size
        obtain ⟨z0, z1, z2, z3, z4, z5, z6, z7, z8⟩ := vecIn.cells T2.out
        have hnq : ∀ W, (binOp .neq 24 (vec R.1) (vec R.1)).run Try.prog W = .ok (.bool false) W := fun W => by rw [run_neq_vec, V.same_self]; rfl
        go_wp2_with fail
        refine ⟨⟨k + 1, hlt, by go_num, B2.out.alloc lb2 _⟩, ?_⟩
        simp [intOf]; omega
      | true =>
        have h1 := has_is HMV.out hx
        have h2 := next_is HMV.out hx
        obtain ⟨st, hst, s1, s8⟩ := may_site hx
        rw [hst] at h1 h2
        simp only [Int.toNat_natCast] at h1 h2
        simp only [h1] at hhas
        simp only [h2] at hnext
        have hub := may_le HMV.out st (by omega)
        have hua := (HRV.out st (by omega)).1
        obtain ⟨xt, xs, xq⟩ := x
        dsimp only at hst hhas hnext
        subst hst
        clear h1 h2 hx
        have E := XY.out
        have e0 := E.cell 0 (by simp)
        have e1 := E.cell 1 (by simp)
        have e2 := E.cell 2 (by simp)
        simp only [enI, List.getElem_cons_zero, List.getElem_cons_succ] at e0 e1 e2
        have lx := E.lt
        have lg := GY.out.lt
        clear E
        obtain ⟨z0, z1, z2, z3, z4, z5, z6, z7, z8⟩ := vecIn.cells GY.out
        have hnx := fun (n : Near y.heap.size y) (j : Nat) => near_cell y.heap.size n wr.heap.size j lx
        have hng := fun (n : Near y.heap.size y) (j : Nat) => near_cell y.heap.size n w.heap.size j lg
        have ck := vecIn.at GY.out st (by omega)
        have kk : (st : Int) < 9 := by omega
        have hw1 : IntKind.u64.wrap (v st + 1) = v st + 1 := IntWalk.u64_in _ (by omega)
        go_wp2_with fail
        refine wp_region_dep y.heap.size 31 (by kernel_rfl) (by kernel_rfl) (by rfl) (Nat.le_refl _) ?_
        simp only [List.take_succ_cons, List.take_zero, List.drop_succ_cons, List.drop_zero]
        iterate 2 (refine wpDep_plain (by rfl) (fun K hK => ?_); go_simp; (refine hK _ ?_; clear hK K))
        refine wpDep_plain (by rfl) (fun K hK => ?_); go_simp; refine ⟨_, fun n => callsTo_of (hhas _), ?_⟩; (refine hK _ ?_; clear hK K)
        iterate 14 (refine wpDep_plain (by rfl) (fun K hK => ?_); go_simp; (refine hK _ ?_; clear hK K))
        refine wpDep_plain (by rfl) (fun K hK => ?_); go_simp; refine ⟨_, fun n => callsTo_of (hnext _), ?_⟩; (refine hK _ ?_; clear hK K)
        iterate 13 (refine wpDep_plain (by rfl) (fun K hK => ?_); go_simp; (refine hK _ ?_; clear hK K))
        refine wpDep_nil ?_
        intro f m _
        simp only [fillV]
        have GZ := Lib.hid (show vecIn m.u w.heap.size v from holds_below GY.out m.h GY.out.lt)
        have XZ := Lib.hid (show holds m.u wr.heap.size (enI ⟨xt, st, xq⟩) from holds_below XY.out m.h XY.out.lt)
        have BZ := Lib.hid (BY.out.trans (m.h.mono BY.out.size))
        clear GY XY BY hnx hng e0 e1 e2 lx lg hhas hnext ck kk hw1
        clear z0 z1 z2 z3 z4 z5 z6 z7 z8
        obtain ⟨q, hq⟩ : ∃ q, m.u = q := ⟨_, rfl⟩
        rw [hq] at GZ XZ BZ
        rw [hq]
        clear hq
        obtain ⟨R, hR⟩ : ∃ R, withR v [⟨xt, st, xq⟩] = R := ⟨_, rfl⟩
        have hw1 := HW1.out ⟨xt, st, xq⟩
        have hw2 := HW2.out ⟨xt, st, xq⟩
        simp only [hR] at hw1 hw2
        clear hR
        have KW1 := Lib.hid hw1
        have KW2 := Lib.hid hw2
        clear hw1 hw2
        have E := XZ.out
        have e0 := E.cell 0 (by simp)
        have e1 := E.cell 1 (by simp)
        have e2 := E.cell 2 (by simp)
        simp only [enI, List.getElem_cons_zero, List.getElem_cons_succ] at e0 e1 e2
        clear E
        obtain ⟨z0, z1, z2, z3, z4, z5, z6, z7, z8⟩ := vecIn.cells GZ.out
        go_wp2_with fail
        refine (KW1.out _ _ (blockIs_new q _ _)).mono ?_
        rintro e q1 ⟨rfl, hB⟩
        clear z0 z1 z2 z3 z4 z5 z6 z7 z8
        clear e0 e1 e2
        have hB' : Below q.heap.size q q1 := ((Below.refl _ _).alloc (Nat.le_refl _) _).trans (hB.mono (by simp))
        have G1 := Lib.hid (show vecIn q1 w.heap.size v from holds_below GZ.out hB' GZ.out.lt)
        have X1 := Lib.hid (show holds q1 wr.heap.size (enI ⟨xt, st, xq⟩) from holds_below XZ.out hB' XZ.out.lt)
        have B1 := Lib.hid (BZ.out.trans (hB'.mono BZ.out.size))
        clear hB hB' GZ XZ BZ
        have E := X1.out
        have e0 := E.cell 0 (by simp)
        have e1 := E.cell 1 (by simp)
        have e2 := E.cell 2 (by simp)
        simp only [enI, List.getElem_cons_zero, List.getElem_cons_succ] at e0 e1 e2
        have l1 := E.lt
        have l2 := G1.out.lt
        clear E
        obtain ⟨z0, z1, z2, z3, z4, z5, z6, z7, z8⟩ := vecIn.cells G1.out
        go_wp2_with fail
        have hbk : blockIs ((q1.alloc (.cells (vecA R.1) 24)).alloc (.cells #[.int .u64 xt, .int .i64 (st : Int), .int .u64 xq] 29)) (q1.heap.size + 1) #[.int .u64 xt, .int .i64 (st : Int), .int .u64 xq] 29 := by
          have := blockIs_new (q1.alloc (.cells (vecA R.1) 24)) #[.int .u64 xt, .int .i64 (st : Int), .int .u64 xq] 29
          rwa [World.size_alloc] at this
        refine (KW2.out _ _ hbk).mono ?_
        clear hbk
        rintro e q2 ⟨rfl, hB⟩
        clear z0 z1 z2 z3 z4 z5 z6 z7 z8
        clear e0 e1 e2 l1 l2
        have T2 := Lib.hid (show vecIn q2 q1.heap.size R.1 from holds_below (holds_alloc (vecIn_new q1 R.1) _) hB (by simp <;> omega))
        have B2 := Lib.hid (B1.out.trans (((((Below.refl q1.heap.size q1).alloc (Nat.le_refl _) _).alloc (by simp) _).trans (hB.mono (by simp <;> omega))).mono B1.out.size))
        clear hB G1 X1 B1
        have lt2 := T2.out.lt
        have lb2 := B2.out.size
        obtain ⟨z0, z1, z2, z3, z4, z5, z6, z7, z8⟩ := vecIn.cells T2.out
        have hnq : ∀ W, (binOp .neq 24 (vec R.1) (vec R.1)).run Try.prog W = .ok (.bool false) W := fun W => by rw [run_neq_vec, V.same_self]; rfl
        go_wp2_with fail
        refine ⟨⟨k + 1, hlt, by go_num, B2.out.alloc lb2 _⟩, ?_⟩
        simp [intOf]; omega
    · obtain rfl : k = l.length := by omega
      clear hA hB
      have E1 := Lib.hid (rowV_below RL.out NB.out)
      have E2 := Lib.hid (rowV_below RX.out NB.out)
      have hlc : l.length ≤ cap := by have := HL.out; omega
      obtain ⟨z0, z1, z2, z3, z4, z5, z6, z7, z8⟩ := vecIn.cells HA.out
      go_wp2_with fail
      refine (HWL.out _ _ _ E1.out).mono ?_
      rintro e y1 ⟨rfl, hB⟩
      clear z0 z1 z2 z3 z4 z5 z6 z7 z8
      have N1 := Lib.hid (NB.out.trans (hB.mono NB.out.size))
      have A1 := Lib.hid (show vecIn y1 w.heap.size v from holds_below HA.out hB la)
      have P1 := Lib.hid (rowV_below E1.out hB)
      have Q1 := Lib.hid (rowV_below E2.out hB)
      clear hB HA la E1 E2 NB
      have la1 := A1.out.lt
      obtain ⟨z0, z1, z2, z3, z4, z5, z6, z7, z8⟩ := vecIn.cells A1.out
      go_wp2_with fail
      refine (HRL.out _ _ _ (rowV_below P1.out ((Below.refl _ _).alloc (Nat.le_refl _) _))).mono ?_
      rintro e y2 ⟨rfl, hB⟩
      clear la1
      clear z0 z1 z2 z3 z4 z5 z6 z7 z8
      have hB' : Below y1.heap.size y1 y2 := ((Below.refl _ _).alloc (Nat.le_refl _) _).trans (hB.mono (by simp))
      have F2 := Lib.hid (show vecIn y2 y1.heap.size RA.1 from holds_below (vecIn_new y1 RA.1) hB (by simp))
      have N2 := Lib.hid (N1.out.trans (hB'.mono N1.out.size))
      have P2 := Lib.hid (rowV_below P1.out hB')
      have Q2 := Lib.hid (rowV_below Q1.out hB')
      clear hB hB' N1 A1 P1 Q1
      go_wp2_with fail
      refine (HOF.out _ _ _ (rowV_below P2.out ((Below.refl _ _).alloc (Nat.le_refl _) _)) HN1.out).mono ?_
      rintro e y3 ⟨rfl, hB⟩
      have hB' : Below y2.heap.size y2 y3 := ((Below.refl _ _).alloc (Nat.le_refl _) _).trans (hB.mono (by simp))
      have F3 := Lib.hid (show vecIn y3 y1.heap.size RA.1 from holds_below F2.out hB' F2.out.lt)
      have I3' := Lib.hid (show vecIn y3 y2.heap.size RA.1 from holds_below (vecIn_new y2 RA.1) hB (by simp))
      have N3 := Lib.hid (N2.out.trans (hB'.mono N2.out.size))
      have P3 := Lib.hid (rowV_below P2.out hB')
      have Q3 := Lib.hid (rowV_below Q2.out hB')
      clear hB hB' F2 N2 P2 Q2
      go_wp2_with fail
      refine (HRS.out _ _ _ (rowV_below P3.out ((Below.refl _ _).alloc (Nat.le_refl _) _)) HN1.out).mono ?_
      rintro e y4 ⟨a5, c5, rfl, hr5, hB⟩
      have hB' : Below y3.heap.size y3 y4 := ((Below.refl _ _).alloc (Nat.le_refl _) _).trans (hB.mono (by simp))
      have F4 := Lib.hid (show vecIn y4 y1.heap.size RA.1 from holds_below F3.out hB' F3.out.lt)
      have I4 := Lib.hid (show vecIn y4 y2.heap.size RA.1 from holds_below I3'.out hB' I3'.out.lt)
      have J4 := Lib.hid (show vecIn y4 y3.heap.size RB.1 from holds_below (vecIn_new y3 RB.1) hB (by simp))
      have N4 := Lib.hid (N3.out.trans (hB'.mono N3.out.size))
      have P4 := Lib.hid (rowV_below P3.out hB')
      have Q4 := Lib.hid (rowV_below Q3.out hB')
      have R5 := Lib.hid hr5
      clear hB hB' F3 I3' N3 P3 Q3 hr5
      go_wp2_with fail
      refine (HRZ.out _ _ _ R5.out).mono ?_
      rintro e y5 ⟨rfl, hB⟩
      have F5 := Lib.hid (show vecIn y5 y1.heap.size RA.1 from holds_below F4.out hB F4.out.lt)
      have I5 := Lib.hid (show vecIn y5 y2.heap.size RA.1 from holds_below I4.out hB I4.out.lt)
      have J5 := Lib.hid (show vecIn y5 y3.heap.size RB.1 from holds_below J4.out hB J4.out.lt)
      have N5 := Lib.hid (N4.out.trans (hB.mono N4.out.size))
      have P5 := Lib.hid (rowV_below P4.out hB)
      have Q5 := Lib.hid (rowV_below Q4.out hB)
      clear hB F4 I4 J4 N4 P4 Q4 R5
      have l1 := F5.out.lt
      have l2 := I5.out.lt
      have l3 := J5.out.lt
      have l5 := N5.out.size
      obtain ⟨z0, z1, z2, z3, z4, z5, z6, z7, z8⟩ := vecIn.cells F5.out
      obtain ⟨i0, i1, i2, i3, i4, i5, i6, i7, i8⟩ := vecIn.cells I5.out
      obtain ⟨j0, j1, j2, j3, j4, j5, j6, j7, j8⟩ := vecIn.cells J5.out
      have qA : ∀ W, (binOp .eql 24 (vec RA.1) (vec RA.1)).run Try.prog W = .ok (.bool true) W := fun W => by rw [run_eql_vec, V.same_self]
      have qB : ∀ W, (binOp .eql 24 (vec RB.1) (vec RB.1)).run Try.prog W = .ok (.bool true) W := fun W => by rw [run_eql_vec, V.same_self]
      go_wp2_with fail
      refine (equalI_same l _ _ _ _ _ (rowV_below P5.out ((Below.refl _ _).alloc (Nat.le_refl _) _)) (rowV_below Q5.out ((Below.refl _ _).alloc (Nat.le_refl _) _)) (by omega)).mono ?_
      rintro e y6 ⟨rfl, hB⟩
      have HE := Lib.hid (KB.out.trans ((N5.out.trans ((((Below.refl _ _).alloc (Nat.le_refl _) _).trans (hB.mono (by simp))).mono l5)).mono KB.out.size))
      clear l1 l2 l3 qA qB
      clear z0 z1 z2 z3 z4 z5 z6 z7 z8 i0 i1 i2 i3 i4 i5 i6 i7 i8 j0 j1 j2 j3 j4 j5 j6 j7 j8
      go_wp2_with fail
      exact ⟨rfl, _, results_tmp rfl _ _ _, rfl, HE.out⟩
end Go.Proofs.Ytjpgabpicfcapaa
