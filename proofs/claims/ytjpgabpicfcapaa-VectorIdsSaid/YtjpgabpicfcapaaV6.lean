/- walks: a vector with more ids -/
import Derived.Test.YtjpgabpicfcapaaV5
import Derived.Defers
import Derived.WalkMore
namespace Go.Proofs.Ytjpgabpicfcapaa
open Go.RowKit

abbrev enI (i : I3) : List Value := [.int .u64 i.t, .int .i64 i.s, .int .u64 i.q]
def withS : V → List I3 → V × Int
  | v, [] => (v, 0)
  | v, i :: l => if addE v i = 0 then withS (v.add i) l else (V.zero, addE v i)
def withR (v : V) (l : List I3) : V × Int := match v.may with
  | true => withS v l
  | false => (V.zero, 230)
theorem addE_zero {v : V} {i : I3} (h : addE v i = 0) : i.may = true ∧ nextB v i = true := by
  unfold addE at h
  cases h1 : i.may <;> cases h2 : hasB v i <;> cases h3 : nextB v i <;> simp [h1, h2, h3] at h ⊢
theorem may_num {i : I3} (h : i.may = true) : 1 ≤ i.q ∧ i.q ≤ 4611686018427387904 := by
  unfold I3.may isNum at h
  simp only [Bool.and_eq_true, decide_eq_true_eq] at h
  exact h.2.2
theorem add_rng {v : V} {i : I3} (hr : v.rng) (hm : v.may = true) (h : addE v i = 0) : (v.add i).rng ∧ (v.add i).may = true := by
  obtain ⟨h1, h2⟩ := addE_zero h
  obtain ⟨k, hk, k1, k8⟩ := may_site h1
  have hq := may_num h1
  have hn : i.q = v k + 1 := by
    unfold nextB at h2
    simp only [Bool.and_eq_true, beq_iff_eq] at h2
    rw [h2.2.2, hk]; simp
  have e : i.s.toNat = k := by omega
  have hlo := hr k (by omega)
  constructor
  · intro j hj
    unfold V.add V.set
    rw [e]
    by_cases x : j = k
    · rw [if_pos x]; omega
    · rw [if_neg x]; exact hr j hj
  · refine may_of fun j hj => ?_
    have h0 : v.badAt j = false := by
      have := hm
      unfold V.may at this
      rw [List.all_eq_true] at this
      simpa using this j (List.mem_range.2 hj)
    unfold V.badAt V.add V.set at *
    rw [e]
    by_cases x : j = k
    · rw [if_pos x]
      have j0 : (j == 0) = false := by simp; omega
      rw [j0]; simp; omega
    · rw [if_neg x]; exact h0

set_option maxRecDepth 4000 in
set_option maxHeartbeats 2000000 in
theorem with_any (v : V) (hr : v.rng) (l : List I3) (a0 : Option Addr) (cap : Nat) (w : World) (hl : rowV w a0 l.length 3 enI l) (hmax : l.length ≤ 9223372036854775807) :
    Calls Try.prog 14 #[vec v, .slice a0 l.length cap] w fun e w' => e = .returned (.tuple #[vec (withR v l).1, .int .i64 (withR v l).2]) ∧ Below w.heap.size w w' := by
  have hmf : ∀ (fn : Fn) (first cap : Array Value) (w : World), (Instr.makeFunc fn first cap).run Try.prog w = .ok (.func fn first cap) w := fun _ _ _ _ => rfl
  have HL := Lib.hid hl
  clear hl
  cases hm : v.may with
  | false =>
    have HW := Lib.hid (show withR v l = (V.zero, 230) by unfold withR; rw [hm])
    go_enter_defers Try.func14, Try.ntmps14
    go_wp2_with fail
    refine (workedOf_no v hm _).mono ?_
    rintro e w1 ⟨rfl, hB⟩
    have b0 := hB.size
    simp only [World.size_alloc] at b0
    have lc : w.heap.size + 1 < w1.heap.size := by omega
    have le : w.heap.size + 1 + 1 < w1.heap.size := by omega
    have r0 := hB.cell (p := ⟨w.heap.size + 1, 0, none⟩) (by simp)
    have r1 := hB.cell (p := ⟨w.heap.size + 1, 1, none⟩) (by simp)
    have r2 := hB.cell (p := ⟨w.heap.size + 1, 2, none⟩) (by simp)
    have r3 := hB.cell (p := ⟨w.heap.size + 1, 3, none⟩) (by simp)
    have r4 := hB.cell (p := ⟨w.heap.size + 1, 4, none⟩) (by simp)
    have r5 := hB.cell (p := ⟨w.heap.size + 1, 5, none⟩) (by simp)
    have r6 := hB.cell (p := ⟨w.heap.size + 1, 6, none⟩) (by simp)
    have r7 := hB.cell (p := ⟨w.heap.size + 1, 7, none⟩) (by simp)
    have r8 := hB.cell (p := ⟨w.heap.size + 1, 8, none⟩) (by simp)
    have re := hB.cell (p := ⟨w.heap.size + 1 + 1, 0, none⟩) (by simp)
    have rz := hB.frozen (p := ⟨w.heap.size + 1 + 1, 0, none⟩) (by simp)
    simp [go_sem] at r0 r1 r2 r3 r4 r5 r6 r7 r8 re rz
    have hb1 : Below w.heap.size w w1 := ((((Below.refl _ _).alloc (Nat.le_refl _) _).alloc (by simp) _).alloc (by simp; omega) _).trans (hB.mono (by simp; omega))
    go_wp2
    refine leaves_cons (f := 36) (args := #[.pointer (some ⟨w.heap.size + 1 + 1, 0, none⟩)]) (by simp) (by simp [go_sem]) ?_
    refine (with1_panicking 230 (w.heap.size + 1 + 1) _ [] _ re rz).mono ?_
    rintro e u' w'' ⟨rfl, rfl, W, hBW, rfl⟩
    show Leaves _ _ _ _ [] .returning _
    refine ⟨.tuple #[zeroV, .int .i64 230], ?_, by rw [HW.out], ?_⟩
    · have k0 := (hBW.cell (p := ⟨w.heap.size + 1, 0, none⟩) lc).trans r0
      have k1 := (hBW.cell (p := ⟨w.heap.size + 1, 1, none⟩) lc).trans r1
      have k2 := (hBW.cell (p := ⟨w.heap.size + 1, 2, none⟩) lc).trans r2
      have k3 := (hBW.cell (p := ⟨w.heap.size + 1, 3, none⟩) lc).trans r3
      have k4 := (hBW.cell (p := ⟨w.heap.size + 1, 4, none⟩) lc).trans r4
      have k5 := (hBW.cell (p := ⟨w.heap.size + 1, 5, none⟩) lc).trans r5
      have k6 := (hBW.cell (p := ⟨w.heap.size + 1, 6, none⟩) lc).trans r6
      have k7 := (hBW.cell (p := ⟨w.heap.size + 1, 7, none⟩) lc).trans r7
      have k8 := (hBW.cell (p := ⟨w.heap.size + 1, 8, none⟩) lc).trans r8
      have ke := (hBW.cell (p := ⟨w.heap.size + 1 + 1, 0, none⟩) le).trans re
      simp [results, Try.results14, go_sem, k0, k1, k2, k3, k4, k5, k6, k7, k8, ke]
    · exact (hb1.trans (hBW.mono (by omega))).setCell (by dsimp only; omega) _
  | true =>
    have HM := Lib.hid hm
    have HW := Lib.hid (show withR v l = withS v l by unfold withR; rw [hm])
    go_enter_defers Try.func14, Try.ntmps14
    go_wp2_with fail
    refine (workedOf_yes v hm _).mono ?_
    rintro e w1 ⟨g, rfl, hg, hv, hB⟩
    clear hm
    simp only [World.size_alloc] at hg
    have lg := hv.lt
    have lc : w.heap.size + 1 < g := by omega
    have le : w.heap.size + 1 + 1 < g := by omega
    have r0 := hB.cell (p := ⟨w.heap.size + 1, 0, none⟩) (by simp)
    have r1 := hB.cell (p := ⟨w.heap.size + 1, 1, none⟩) (by simp)
    have r2 := hB.cell (p := ⟨w.heap.size + 1, 2, none⟩) (by simp)
    have r3 := hB.cell (p := ⟨w.heap.size + 1, 3, none⟩) (by simp)
    have r4 := hB.cell (p := ⟨w.heap.size + 1, 4, none⟩) (by simp)
    have r5 := hB.cell (p := ⟨w.heap.size + 1, 5, none⟩) (by simp)
    have r6 := hB.cell (p := ⟨w.heap.size + 1, 6, none⟩) (by simp)
    have r7 := hB.cell (p := ⟨w.heap.size + 1, 7, none⟩) (by simp)
    have r8 := hB.cell (p := ⟨w.heap.size + 1, 8, none⟩) (by simp)
    have f0 := hB.frozen (p := ⟨w.heap.size + 1, 0, none⟩) (by simp)
    have f1 := hB.frozen (p := ⟨w.heap.size + 1, 1, none⟩) (by simp)
    have f2 := hB.frozen (p := ⟨w.heap.size + 1, 2, none⟩) (by simp)
    have f3 := hB.frozen (p := ⟨w.heap.size + 1, 3, none⟩) (by simp)
    have f4 := hB.frozen (p := ⟨w.heap.size + 1, 4, none⟩) (by simp)
    have f5 := hB.frozen (p := ⟨w.heap.size + 1, 5, none⟩) (by simp)
    have f6 := hB.frozen (p := ⟨w.heap.size + 1, 6, none⟩) (by simp)
    have f7 := hB.frozen (p := ⟨w.heap.size + 1, 7, none⟩) (by simp)
    have f8 := hB.frozen (p := ⟨w.heap.size + 1, 8, none⟩) (by simp)
    have re := hB.cell (p := ⟨w.heap.size + 1 + 1, 0, none⟩) (by simp)
    have rz := hB.frozen (p := ⟨w.heap.size + 1 + 1, 0, none⟩) (by simp)
    simp [go_sem] at r0 r1 r2 r3 r4 r5 r6 r7 r8 f0 f1 f2 f3 f4 f5 f6 f7 f8 re rz
    have hb1 : Below w.heap.size w w1 := ((((Below.refl _ _).alloc (Nat.le_refl _) _).alloc (by simp) _).alloc (by simp; omega) _).trans (hB.mono (by simp; omega))
    clear hB
    go_wp2_with fail
    clear hmf
    go_loopw [9, 17] (fun _ i wr => ∃ k : Nat, k ≤ l.length ∧ i = .int .i64 k ∧ ∃ u : V, u.rng ∧ u.may = true ∧ vecIn wr g u ∧ withS v l = withS u (l.drop k) ∧ Below g w1 wr)
      (fun _ i _ => l.length - (intOf i).toNat)
    case atStart => exact ⟨0, Nat.zero_le _, rfl, v, hr, HM.out, hv, by simp, Below.refl _ _⟩
    case round =>
      obtain ⟨k, hk, rfl, u, hur, hum, hu, hS, hBg⟩ := hrel
      have HS := Lib.hid hS
      have HU := Lib.hid hum
      have hbw : Below w.heap.size w wr := hb1.trans (hBg.mono (by omega))
      have lgr := hu.lt
      clear hS hum hv
      by_cases hlt : k < l.length
      · obtain ⟨b, off, rfl, hc⟩ := (rowV_below HL.out hbw).2.resolve_left (by intro e; subst e; simp at hlt)
        have d0 := hc.2 k hlt 0 (by omega)
        have d1 := hc.2 k hlt 1 (by omega)
        have d2 := hc.2 k hlt 2 (by omega)
        simp only [enI, List.getElem?_cons_zero, List.getElem?_cons_succ, Nat.add_zero] at d0 d1 d2
        have HD := Lib.hid (List.drop_eq_getElem_cons hlt)
        clear hc
        generalize l[k] = x at *
        have HV := Lib.hid hu
        clear hu
        go_wp2_with fail
        refine (add_any u x hur HU.out g _ (holds_alloc HV.out _)).mono ?_
        rintro e w2 (⟨h0, rfl, hv2, hK⟩ | ⟨hne, rfl, hB2⟩)
        · have hC : Below g w1 w2 := (hBg.alloc (by omega) _).trans (hK.below (by simp; omega) (fun k hk => by omega))
          have HX := Lib.hid h0
          clear h0
          go_wp2
          go_roundw
          case rel => exact ⟨k + 1, hlt, by go_num, u.add x, (add_rng hur HU.out HX.out).1, (add_rng hur HU.out HX.out).2, hv2, by rw [HS.out, HD.out]; simp only [withS, HX.out, if_true], hC⟩
          case measure => simp [intOf]; omega
        · have hC : Below g w1 w2 := (hBg.alloc (by omega) _).trans (hB2.mono (by simp; omega))
          have hzero : withS v l = (V.zero, addE u x) := by rw [HS.out, HD.out]; simp only [withS, hne, if_false]
          have HZ := Lib.hid hzero
          have le2 : w.heap.size + 1 + 1 < w2.heap.size := by have := hC.size; omega
          have lc2 : w.heap.size + 1 < w2.heap.size := by omega
          have q_e := (hC.cell (p := ⟨w.heap.size + 1 + 1, 0, none⟩) le).trans re
          have q_z := (hC.frozen (p := ⟨w.heap.size + 1 + 1, 0, none⟩) le).trans rz
          have q0 := (hC.cell (p := ⟨w.heap.size + 1, 0, none⟩) lc).trans r0
          have q1 := (hC.cell (p := ⟨w.heap.size + 1, 1, none⟩) lc).trans r1
          have q2 := (hC.cell (p := ⟨w.heap.size + 1, 2, none⟩) lc).trans r2
          have q3 := (hC.cell (p := ⟨w.heap.size + 1, 3, none⟩) lc).trans r3
          have q4 := (hC.cell (p := ⟨w.heap.size + 1, 4, none⟩) lc).trans r4
          have q5 := (hC.cell (p := ⟨w.heap.size + 1, 5, none⟩) lc).trans r5
          have q6 := (hC.cell (p := ⟨w.heap.size + 1, 6, none⟩) lc).trans r6
          have q7 := (hC.cell (p := ⟨w.heap.size + 1, 7, none⟩) lc).trans r7
          have q8 := (hC.cell (p := ⟨w.heap.size + 1, 8, none⟩) lc).trans r8
          clear hzero hne r0 r1 r2 r3 r4 r5 r6 r7 r8 f0 f1 f2 f3 f4 f5 f6 f7 f8 re rz
          go_wp2
          refine leaves_cons (f := 36) (args := #[.pointer (some ⟨w.heap.size + 1 + 1, 0, none⟩)]) (by simp) (by simp [go_sem]) ?_
          refine (with1_panicking (addE u x) (w.heap.size + 1 + 1) _ [] _ q_e q_z).mono ?_
          rintro e u' w'' ⟨rfl, rfl, W, hBW, rfl⟩
          show Leaves _ _ _ _ [] .returning _
          refine ⟨.tuple #[zeroV, .int .i64 (addE u x)], ?_, by rw [HW.out, HZ.out], ?_⟩
          · have ke := (hBW.cell (p := ⟨w.heap.size + 1 + 1, 0, none⟩) le2).trans q_e
            have k0 := (hBW.cell (p := ⟨w.heap.size + 1, 0, none⟩) lc2).trans q0
            have k1 := (hBW.cell (p := ⟨w.heap.size + 1, 1, none⟩) lc2).trans q1
            have k2 := (hBW.cell (p := ⟨w.heap.size + 1, 2, none⟩) lc2).trans q2
            have k3 := (hBW.cell (p := ⟨w.heap.size + 1, 3, none⟩) lc2).trans q3
            have k4 := (hBW.cell (p := ⟨w.heap.size + 1, 4, none⟩) lc2).trans q4
            have k5 := (hBW.cell (p := ⟨w.heap.size + 1, 5, none⟩) lc2).trans q5
            have k6 := (hBW.cell (p := ⟨w.heap.size + 1, 6, none⟩) lc2).trans q6
            have k7 := (hBW.cell (p := ⟨w.heap.size + 1, 7, none⟩) lc2).trans q7
            have k8 := (hBW.cell (p := ⟨w.heap.size + 1, 8, none⟩) lc2).trans q8
            simp [results, Try.results14, go_sem, k0, k1, k2, k3, k4, k5, k6, k7, k8, ke]
          · exact ((hb1.trans (hC.mono (by omega))).trans (hBW.mono (by omega))).setCell (by dsimp only; omega) _
      · obtain rfl : k = l.length := by omega
        have HF := Lib.hid (show withS v l = (u, 0) by rw [HS.out, List.drop_length]; rfl)
        have q_e := (hBg.cell (p := ⟨w.heap.size + 1 + 1, 0, none⟩) le).trans re
        have q_z := (hBg.frozen (p := ⟨w.heap.size + 1 + 1, 0, none⟩) le).trans rz
        have q0 := (hBg.cell (p := ⟨w.heap.size + 1, 0, none⟩) lc).trans r0
        have q1 := (hBg.cell (p := ⟨w.heap.size + 1, 1, none⟩) lc).trans r1
        have q2 := (hBg.cell (p := ⟨w.heap.size + 1, 2, none⟩) lc).trans r2
        have q3 := (hBg.cell (p := ⟨w.heap.size + 1, 3, none⟩) lc).trans r3
        have q4 := (hBg.cell (p := ⟨w.heap.size + 1, 4, none⟩) lc).trans r4
        have q5 := (hBg.cell (p := ⟨w.heap.size + 1, 5, none⟩) lc).trans r5
        have q6 := (hBg.cell (p := ⟨w.heap.size + 1, 6, none⟩) lc).trans r6
        have q7 := (hBg.cell (p := ⟨w.heap.size + 1, 7, none⟩) lc).trans r7
        have q8 := (hBg.cell (p := ⟨w.heap.size + 1, 8, none⟩) lc).trans r8
        have z0 := (hBg.frozen (p := ⟨w.heap.size + 1, 0, none⟩) lc).trans f0
        have z1 := (hBg.frozen (p := ⟨w.heap.size + 1, 1, none⟩) lc).trans f1
        have z2 := (hBg.frozen (p := ⟨w.heap.size + 1, 2, none⟩) lc).trans f2
        have z3 := (hBg.frozen (p := ⟨w.heap.size + 1, 3, none⟩) lc).trans f3
        have z4 := (hBg.frozen (p := ⟨w.heap.size + 1, 4, none⟩) lc).trans f4
        have z5 := (hBg.frozen (p := ⟨w.heap.size + 1, 5, none⟩) lc).trans f5
        have z6 := (hBg.frozen (p := ⟨w.heap.size + 1, 6, none⟩) lc).trans f6
        have z7 := (hBg.frozen (p := ⟨w.heap.size + 1, 7, none⟩) lc).trans f7
        have z8 := (hBg.frozen (p := ⟨w.heap.size + 1, 8, none⟩) lc).trans f8
        obtain ⟨c0, c1, c2, c3, c4, c5, c6, c7, c8⟩ := hu.cells
        have le2 : w.heap.size + 1 + 1 < wr.heap.size := by omega
        have lc2 : w.heap.size + 1 < wr.heap.size := by omega
        clear r0 r1 r2 r3 r4 r5 r6 r7 r8 f0 f1 f2 f3 f4 f5 f6 f7 f8 re rz hu
        obtain ⟨W0, hW0⟩ : ∃ W0, ((((((((((wr.setCell ⟨w.heap.size + 1, 0, none⟩ (.int .u64 (u 0))).setCell ⟨w.heap.size + 1, 1, none⟩ (.int .u64 (u 1))).setCell ⟨w.heap.size + 1, 2, none⟩ (.int .u64 (u 2))).setCell ⟨w.heap.size + 1, 3, none⟩ (.int .u64 (u 3))).setCell ⟨w.heap.size + 1, 4, none⟩ (.int .u64 (u 4))).setCell ⟨w.heap.size + 1, 5, none⟩ (.int .u64 (u 5))).setCell ⟨w.heap.size + 1, 6, none⟩ (.int .u64 (u 6))).setCell ⟨w.heap.size + 1, 7, none⟩ (.int .u64 (u 7))).setCell ⟨w.heap.size + 1, 8, none⟩ (.int .u64 (u 8))).setCell ⟨w.heap.size + 1 + 1, 0, none⟩ (.int .i64 0)) = W0 := ⟨_, rfl⟩
        have k0 : W0.cell? ⟨w.heap.size + 1, 0, none⟩ = some (.int .u64 (u 0)) := by rw [← hW0]; simp [go_sem, q0]
        have k1 : W0.cell? ⟨w.heap.size + 1, 1, none⟩ = some (.int .u64 (u 1)) := by rw [← hW0]; simp [go_sem, q1]
        have k2 : W0.cell? ⟨w.heap.size + 1, 2, none⟩ = some (.int .u64 (u 2)) := by rw [← hW0]; simp [go_sem, q2]
        have k3 : W0.cell? ⟨w.heap.size + 1, 3, none⟩ = some (.int .u64 (u 3)) := by rw [← hW0]; simp [go_sem, q3]
        have k4 : W0.cell? ⟨w.heap.size + 1, 4, none⟩ = some (.int .u64 (u 4)) := by rw [← hW0]; simp [go_sem, q4]
        have k5 : W0.cell? ⟨w.heap.size + 1, 5, none⟩ = some (.int .u64 (u 5)) := by rw [← hW0]; simp [go_sem, q5]
        have k6 : W0.cell? ⟨w.heap.size + 1, 6, none⟩ = some (.int .u64 (u 6)) := by rw [← hW0]; simp [go_sem, q6]
        have k7 : W0.cell? ⟨w.heap.size + 1, 7, none⟩ = some (.int .u64 (u 7)) := by rw [← hW0]; simp [go_sem, q7]
        have k8 : W0.cell? ⟨w.heap.size + 1, 8, none⟩ = some (.int .u64 (u 8)) := by rw [← hW0]; simp [go_sem, q8]
        have ke : W0.cell? ⟨w.heap.size + 1 + 1, 0, none⟩ = some (.int .i64 0) := by rw [← hW0]; simp [go_sem, q_e]
        have kz : W0.frozen? ⟨w.heap.size + 1 + 1, 0, none⟩ = false := by rw [← hW0]; simp [go_sem, q_z]
        have hb0 : Below w.heap.size w W0 := by rw [← hW0]; exact ((((((((((hbw.setCell (p := ⟨w.heap.size + 1, 0, none⟩) (by dsimp only; omega) _).setCell (p := ⟨w.heap.size + 1, 1, none⟩) (by dsimp only; omega) _).setCell (p := ⟨w.heap.size + 1, 2, none⟩) (by dsimp only; omega) _).setCell (p := ⟨w.heap.size + 1, 3, none⟩) (by dsimp only; omega) _).setCell (p := ⟨w.heap.size + 1, 4, none⟩) (by dsimp only; omega) _).setCell (p := ⟨w.heap.size + 1, 5, none⟩) (by dsimp only; omega) _).setCell (p := ⟨w.heap.size + 1, 6, none⟩) (by dsimp only; omega) _).setCell (p := ⟨w.heap.size + 1, 7, none⟩) (by dsimp only; omega) _).setCell (p := ⟨w.heap.size + 1, 8, none⟩) (by dsimp only; omega) _).setCell (p := ⟨w.heap.size + 1 + 1, 0, none⟩) (by dsimp only; omega) _)
        have leW : w.heap.size + 1 + 1 < W0.heap.size := World.block_lt_of_cell? _ _ ke
        have lcW : w.heap.size + 1 < W0.heap.size := by omega
        go_wp2
        clear hW0
        refine leaves_cons (f := 36) (args := #[.pointer (some ⟨w.heap.size + 1 + 1, 0, none⟩)]) (by simp) (by simp [go_sem]) ?_
        refine (with1_idle (w.heap.size + 1 + 1) _ _ ke kz).mono ?_
        rintro e u' w'' ⟨rfl, rfl, W, hBW, rfl⟩
        show Leaves _ _ _ _ [] .returning _
        refine ⟨.tuple #[vec u, .int .i64 0], ?_, by rw [HW.out, HF.out], ?_⟩
        · have me := (hBW.cell (p := ⟨w.heap.size + 1 + 1, 0, none⟩) leW).trans ke
          have m0 := (hBW.cell (p := ⟨w.heap.size + 1, 0, none⟩) lcW).trans k0
          have m1 := (hBW.cell (p := ⟨w.heap.size + 1, 1, none⟩) lcW).trans k1
          have m2 := (hBW.cell (p := ⟨w.heap.size + 1, 2, none⟩) lcW).trans k2
          have m3 := (hBW.cell (p := ⟨w.heap.size + 1, 3, none⟩) lcW).trans k3
          have m4 := (hBW.cell (p := ⟨w.heap.size + 1, 4, none⟩) lcW).trans k4
          have m5 := (hBW.cell (p := ⟨w.heap.size + 1, 5, none⟩) lcW).trans k5
          have m6 := (hBW.cell (p := ⟨w.heap.size + 1, 6, none⟩) lcW).trans k6
          have m7 := (hBW.cell (p := ⟨w.heap.size + 1, 7, none⟩) lcW).trans k7
          have m8 := (hBW.cell (p := ⟨w.heap.size + 1, 8, none⟩) lcW).trans k8
          simp [results, Try.results14, go_sem, m0, m1, m2, m3, m4, m5, m6, m7, m8, me]
        · exact (hb0.trans (hBW.mono (by omega))).setCell (by dsimp only; omega) _
end Go.Proofs.Ytjpgabpicfcapaa
