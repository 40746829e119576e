/- walks: what vectors come to, with the error that is told -/
import Derived.Test.YtjpgabpicfcapaaV12
import Derived.Test.YtjpgabpicfcapaaV6
namespace Go.Proofs.Ytjpgabpicfcapaa
open Go.RowKit

def joinR (c : Int → Int → Int) (v : V) (l : List V) : V × Int := if allMay l && v.may then (comeL c v l, 0) else (V.zero, 230)

set_option maxRecDepth 4000 in
set_option maxHeartbeats 2000000 in
theorem joined_join (v : V) (l : List V) (a0 : Option Addr) (cap : Nat) (w : World) (hl : rowVec w a0 l) (hmax : l.length ≤ 9223372036854775807) :
    Calls Try.prog 42 #[vec v, .slice a0 l.length cap, fnV 43] w fun e w' => e = .returned (.tuple #[vec (joinR (fun x y : Int => max x y) v l).1, .int .i64 (joinR (fun x y : Int => max x y) v l).2]) ∧ Below w.heap.size w w' := by
  have hmf : ∀ (fn : Fn) (first cap : Array Value) (w : World), (Instr.makeFunc fn first cap).run Try.prog w = .ok (.func fn first cap) w := fun _ _ _ _ => rfl
  have HL := Lib.hid hl
  clear hl
  cases hA : allMay l with
  | false =>
    have HW := Lib.hid (show joinR (fun x y : Int => max x y) v l = (V.zero, 230) by unfold joinR; rw [hA]; rfl)
    have HA := Lib.hid hA
    clear hA
    go_enter_defers Try.func42, Try.ntmps42
    go_wp2_with fail
    refine (are_any l a0 cap _ (rowV_below HL.out (((((Below.refl _ _).alloc (Nat.le_refl _) _).alloc (by simp) _).alloc (by simp; omega) _).alloc (by simp; omega) _)) hmax).mono ?_
    rintro e w1 ⟨rfl, hB⟩
    rw [HA.out]
    have b0 := hB.size
    simp only [World.size_alloc] at b0
    have lc : w.heap.size + 1 + 1 < w1.heap.size := by omega
    have le : w.heap.size + 1 + 1 + 1 < w1.heap.size := by omega
    have hb1 : Below w.heap.size w w1 := (((((Below.refl _ _).alloc (Nat.le_refl _) _).alloc (by simp) _).alloc (by simp; omega) _).alloc (by simp; omega) _).trans (hB.mono (by simp; omega))
    have r0 := hB.cell (p := ⟨w.heap.size + 1 + 1, 0, none⟩) (by simp <;> omega)
    have r1 := hB.cell (p := ⟨w.heap.size + 1 + 1, 1, none⟩) (by simp <;> omega)
    have r2 := hB.cell (p := ⟨w.heap.size + 1 + 1, 2, none⟩) (by simp <;> omega)
    have r3 := hB.cell (p := ⟨w.heap.size + 1 + 1, 3, none⟩) (by simp <;> omega)
    have r4 := hB.cell (p := ⟨w.heap.size + 1 + 1, 4, none⟩) (by simp <;> omega)
    have r5 := hB.cell (p := ⟨w.heap.size + 1 + 1, 5, none⟩) (by simp <;> omega)
    have r6 := hB.cell (p := ⟨w.heap.size + 1 + 1, 6, none⟩) (by simp <;> omega)
    have r7 := hB.cell (p := ⟨w.heap.size + 1 + 1, 7, none⟩) (by simp <;> omega)
    have r8 := hB.cell (p := ⟨w.heap.size + 1 + 1, 8, none⟩) (by simp <;> omega)
    have f0 := hB.frozen (p := ⟨w.heap.size + 1 + 1, 0, none⟩) (by simp <;> omega)
    have f1 := hB.frozen (p := ⟨w.heap.size + 1 + 1, 1, none⟩) (by simp <;> omega)
    have f2 := hB.frozen (p := ⟨w.heap.size + 1 + 1, 2, none⟩) (by simp <;> omega)
    have f3 := hB.frozen (p := ⟨w.heap.size + 1 + 1, 3, none⟩) (by simp <;> omega)
    have f4 := hB.frozen (p := ⟨w.heap.size + 1 + 1, 4, none⟩) (by simp <;> omega)
    have f5 := hB.frozen (p := ⟨w.heap.size + 1 + 1, 5, none⟩) (by simp <;> omega)
    have f6 := hB.frozen (p := ⟨w.heap.size + 1 + 1, 6, none⟩) (by simp <;> omega)
    have f7 := hB.frozen (p := ⟨w.heap.size + 1 + 1, 7, none⟩) (by simp <;> omega)
    have f8 := hB.frozen (p := ⟨w.heap.size + 1 + 1, 8, none⟩) (by simp <;> omega)
    have re := hB.cell (p := ⟨w.heap.size + 1 + 1 + 1, 0, none⟩) (by simp <;> omega)
    have rz := hB.frozen (p := ⟨w.heap.size + 1 + 1 + 1, 0, none⟩) (by simp <;> omega)
    have rc := hB.cell (p := ⟨w.heap.size + 1, 0, none⟩) (by simp <;> omega)
    have v0 := hB.cell (p := ⟨w.heap.size, 0, none⟩) (by simp <;> omega)
    have v1 := hB.cell (p := ⟨w.heap.size, 1, none⟩) (by simp <;> omega)
    have v2 := hB.cell (p := ⟨w.heap.size, 2, none⟩) (by simp <;> omega)
    have v3 := hB.cell (p := ⟨w.heap.size, 3, none⟩) (by simp <;> omega)
    have v4 := hB.cell (p := ⟨w.heap.size, 4, none⟩) (by simp <;> omega)
    have v5 := hB.cell (p := ⟨w.heap.size, 5, none⟩) (by simp <;> omega)
    have v6 := hB.cell (p := ⟨w.heap.size, 6, none⟩) (by simp <;> omega)
    have v7 := hB.cell (p := ⟨w.heap.size, 7, none⟩) (by simp <;> omega)
    have v8 := hB.cell (p := ⟨w.heap.size, 8, none⟩) (by simp <;> omega)
    simp [go_sem] at r0 r1 r2 r3 r4 r5 r6 r7 r8 f0 f1 f2 f3 f4 f5 f6 f7 f8 re rz rc v0 v1 v2 v3 v4 v5 v6 v7 v8
    clear f0 f1 f2 f3 f4 f5 f6 f7 f8 rc v0 v1 v2 v3 v4 v5 v6 v7 v8 hB
    go_wp2
    refine leaves_cons (f := 51) (args := #[.pointer (some ⟨w.heap.size + 1 + 1 + 1, 0, none⟩)]) (by simp) (by simp [go_sem]) ?_
    refine (joined1_panicking 230 (w.heap.size + 1 + 1 + 1) _ [] _ re rz).mono ?_
    rintro e u' w'' ⟨rfl, rfl, W, hBW, rfl⟩
    show Leaves _ _ _ _ [] .returning _
    refine ⟨.tuple #[zeroV, .int .i64 230], ?_, by rw [HW.out], ?_⟩
    · have k0 := (hBW.cell (p := ⟨w.heap.size + 1 + 1, 0, none⟩) lc).trans r0
      have k1 := (hBW.cell (p := ⟨w.heap.size + 1 + 1, 1, none⟩) lc).trans r1
      have k2 := (hBW.cell (p := ⟨w.heap.size + 1 + 1, 2, none⟩) lc).trans r2
      have k3 := (hBW.cell (p := ⟨w.heap.size + 1 + 1, 3, none⟩) lc).trans r3
      have k4 := (hBW.cell (p := ⟨w.heap.size + 1 + 1, 4, none⟩) lc).trans r4
      have k5 := (hBW.cell (p := ⟨w.heap.size + 1 + 1, 5, none⟩) lc).trans r5
      have k6 := (hBW.cell (p := ⟨w.heap.size + 1 + 1, 6, none⟩) lc).trans r6
      have k7 := (hBW.cell (p := ⟨w.heap.size + 1 + 1, 7, none⟩) lc).trans r7
      have k8 := (hBW.cell (p := ⟨w.heap.size + 1 + 1, 8, none⟩) lc).trans r8
      have ke := (hBW.cell (p := ⟨w.heap.size + 1 + 1 + 1, 0, none⟩) le).trans re
      simp [results, Try.results42, go_sem, k0, k1, k2, k3, k4, k5, k6, k7, k8, ke]
    · exact (hb1.trans (hBW.mono (by omega))).setCell (by dsimp only; omega) _
  | true =>
    go_enter_defers Try.func42, Try.ntmps42
    go_wp2_with fail
    refine (are_any l a0 cap _ (rowV_below HL.out (((((Below.refl _ _).alloc (Nat.le_refl _) _).alloc (by simp) _).alloc (by simp; omega) _).alloc (by simp; omega) _)) hmax).mono ?_
    rintro e w1 ⟨rfl, hB⟩
    rw [hA]
    have b0 := hB.size
    simp only [World.size_alloc] at b0
    have lv : w.heap.size < w1.heap.size := by omega
    have lcc : w.heap.size + 1 < w1.heap.size := by omega
    have lc : w.heap.size + 1 + 1 < w1.heap.size := by omega
    have le : w.heap.size + 1 + 1 + 1 < w1.heap.size := by omega
    have hb1 : Below w.heap.size w w1 := (((((Below.refl _ _).alloc (Nat.le_refl _) _).alloc (by simp) _).alloc (by simp; omega) _).alloc (by simp; omega) _).trans (hB.mono (by simp; omega))
    have r0 := hB.cell (p := ⟨w.heap.size + 1 + 1, 0, none⟩) (by simp <;> omega)
    have r1 := hB.cell (p := ⟨w.heap.size + 1 + 1, 1, none⟩) (by simp <;> omega)
    have r2 := hB.cell (p := ⟨w.heap.size + 1 + 1, 2, none⟩) (by simp <;> omega)
    have r3 := hB.cell (p := ⟨w.heap.size + 1 + 1, 3, none⟩) (by simp <;> omega)
    have r4 := hB.cell (p := ⟨w.heap.size + 1 + 1, 4, none⟩) (by simp <;> omega)
    have r5 := hB.cell (p := ⟨w.heap.size + 1 + 1, 5, none⟩) (by simp <;> omega)
    have r6 := hB.cell (p := ⟨w.heap.size + 1 + 1, 6, none⟩) (by simp <;> omega)
    have r7 := hB.cell (p := ⟨w.heap.size + 1 + 1, 7, none⟩) (by simp <;> omega)
    have r8 := hB.cell (p := ⟨w.heap.size + 1 + 1, 8, none⟩) (by simp <;> omega)
    have f0 := hB.frozen (p := ⟨w.heap.size + 1 + 1, 0, none⟩) (by simp <;> omega)
    have f1 := hB.frozen (p := ⟨w.heap.size + 1 + 1, 1, none⟩) (by simp <;> omega)
    have f2 := hB.frozen (p := ⟨w.heap.size + 1 + 1, 2, none⟩) (by simp <;> omega)
    have f3 := hB.frozen (p := ⟨w.heap.size + 1 + 1, 3, none⟩) (by simp <;> omega)
    have f4 := hB.frozen (p := ⟨w.heap.size + 1 + 1, 4, none⟩) (by simp <;> omega)
    have f5 := hB.frozen (p := ⟨w.heap.size + 1 + 1, 5, none⟩) (by simp <;> omega)
    have f6 := hB.frozen (p := ⟨w.heap.size + 1 + 1, 6, none⟩) (by simp <;> omega)
    have f7 := hB.frozen (p := ⟨w.heap.size + 1 + 1, 7, none⟩) (by simp <;> omega)
    have f8 := hB.frozen (p := ⟨w.heap.size + 1 + 1, 8, none⟩) (by simp <;> omega)
    have re := hB.cell (p := ⟨w.heap.size + 1 + 1 + 1, 0, none⟩) (by simp <;> omega)
    have rz := hB.frozen (p := ⟨w.heap.size + 1 + 1 + 1, 0, none⟩) (by simp <;> omega)
    have rc := hB.cell (p := ⟨w.heap.size + 1, 0, none⟩) (by simp <;> omega)
    have v0 := hB.cell (p := ⟨w.heap.size, 0, none⟩) (by simp <;> omega)
    have v1 := hB.cell (p := ⟨w.heap.size, 1, none⟩) (by simp <;> omega)
    have v2 := hB.cell (p := ⟨w.heap.size, 2, none⟩) (by simp <;> omega)
    have v3 := hB.cell (p := ⟨w.heap.size, 3, none⟩) (by simp <;> omega)
    have v4 := hB.cell (p := ⟨w.heap.size, 4, none⟩) (by simp <;> omega)
    have v5 := hB.cell (p := ⟨w.heap.size, 5, none⟩) (by simp <;> omega)
    have v6 := hB.cell (p := ⟨w.heap.size, 6, none⟩) (by simp <;> omega)
    have v7 := hB.cell (p := ⟨w.heap.size, 7, none⟩) (by simp <;> omega)
    have v8 := hB.cell (p := ⟨w.heap.size, 8, none⟩) (by simp <;> omega)
    simp [go_sem] at r0 r1 r2 r3 r4 r5 r6 r7 r8 f0 f1 f2 f3 f4 f5 f6 f7 f8 re rz rc v0 v1 v2 v3 v4 v5 v6 v7 v8
    clear hB
    go_wp2_with fail
    cases hm : v.may with
    | false =>
      have HW := Lib.hid (show joinR (fun x y : Int => max x y) v l = (V.zero, 230) by unfold joinR; rw [hA, hm]; rfl)
      refine (workedOf_no v hm _).mono ?_
      rintro e w2 ⟨rfl, hB2⟩
      have b2 := hB2.size
      have lc2 : w.heap.size + 1 + 1 < w2.heap.size := by omega
      have le2 : w.heap.size + 1 + 1 + 1 < w2.heap.size := by omega
      have q0 := (hB2.cell (p := ⟨w.heap.size + 1 + 1, 0, none⟩) lc).trans r0
      have q1 := (hB2.cell (p := ⟨w.heap.size + 1 + 1, 1, none⟩) lc).trans r1
      have q2 := (hB2.cell (p := ⟨w.heap.size + 1 + 1, 2, none⟩) lc).trans r2
      have q3 := (hB2.cell (p := ⟨w.heap.size + 1 + 1, 3, none⟩) lc).trans r3
      have q4 := (hB2.cell (p := ⟨w.heap.size + 1 + 1, 4, none⟩) lc).trans r4
      have q5 := (hB2.cell (p := ⟨w.heap.size + 1 + 1, 5, none⟩) lc).trans r5
      have q6 := (hB2.cell (p := ⟨w.heap.size + 1 + 1, 6, none⟩) lc).trans r6
      have q7 := (hB2.cell (p := ⟨w.heap.size + 1 + 1, 7, none⟩) lc).trans r7
      have q8 := (hB2.cell (p := ⟨w.heap.size + 1 + 1, 8, none⟩) lc).trans r8
      have q_e := (hB2.cell (p := ⟨w.heap.size + 1 + 1 + 1, 0, none⟩) le).trans re
      have q_z := (hB2.frozen (p := ⟨w.heap.size + 1 + 1 + 1, 0, none⟩) le).trans rz
      have hb2 : Below w.heap.size w w2 := hb1.trans (hB2.mono (by omega))
      clear r0 r1 r2 r3 r4 r5 r6 r7 r8 f0 f1 f2 f3 f4 f5 f6 f7 f8 re rz rc v0 v1 v2 v3 v4 v5 v6 v7 v8 hB2 hA hm
      go_wp2
      refine leaves_cons (f := 51) (args := #[.pointer (some ⟨w.heap.size + 1 + 1 + 1, 0, none⟩)]) (by simp) (by simp [go_sem]) ?_
      refine (joined1_panicking 230 (w.heap.size + 1 + 1 + 1) _ [] _ q_e q_z).mono ?_
      rintro e u' w'' ⟨rfl, rfl, W, hBW, rfl⟩
      show Leaves _ _ _ _ [] .returning _
      refine ⟨.tuple #[zeroV, .int .i64 230], ?_, by rw [HW.out], ?_⟩
      · have k0 := (hBW.cell (p := ⟨w.heap.size + 1 + 1, 0, none⟩) lc2).trans q0
        have k1 := (hBW.cell (p := ⟨w.heap.size + 1 + 1, 1, none⟩) lc2).trans q1
        have k2 := (hBW.cell (p := ⟨w.heap.size + 1 + 1, 2, none⟩) lc2).trans q2
        have k3 := (hBW.cell (p := ⟨w.heap.size + 1 + 1, 3, none⟩) lc2).trans q3
        have k4 := (hBW.cell (p := ⟨w.heap.size + 1 + 1, 4, none⟩) lc2).trans q4
        have k5 := (hBW.cell (p := ⟨w.heap.size + 1 + 1, 5, none⟩) lc2).trans q5
        have k6 := (hBW.cell (p := ⟨w.heap.size + 1 + 1, 6, none⟩) lc2).trans q6
        have k7 := (hBW.cell (p := ⟨w.heap.size + 1 + 1, 7, none⟩) lc2).trans q7
        have k8 := (hBW.cell (p := ⟨w.heap.size + 1 + 1, 8, none⟩) lc2).trans q8
        have ke := (hBW.cell (p := ⟨w.heap.size + 1 + 1 + 1, 0, none⟩) le2).trans q_e
        simp [results, Try.results42, go_sem, k0, k1, k2, k3, k4, k5, k6, k7, k8, ke]
      · exact (hb2.trans (hBW.mono (by omega))).setCell (by dsimp only; omega) _
    | true =>
      have HW := Lib.hid (show joinR (fun x y : Int => max x y) v l = (comeL (fun x y : Int => max x y) v l, 0) by unfold joinR; rw [hA, hm]; rfl)
      refine (workedOf_yes v hm _).mono ?_
      rintro e w2 ⟨g, rfl, hg, hv2, hB2⟩
      clear hA hm
      have q_c := (hB2.cell (p := ⟨w.heap.size + 1, 0, none⟩) lcc).trans rc
      have hC := Lib.hid (hb1.trans (hB2.mono (by omega)))
      have HC := Lib.hid q_c
      have HV2 := Lib.hid hv2
      clear hv2 q_c rc
      go_wp2_with fail
      refine (merged_join v l a0 cap g (w.heap.size + 1) w w2 HL.out hmax hC.out (by omega) (by omega) HV2.out HC.out).mono ?_
      rintro e w3 ⟨rfl, hv3, hB3⟩
      have hB13 : Below w1.heap.size w1 w3 := hB2.trans (hB3.mono hg)
      have hb3 : Below w.heap.size w w3 := hb1.trans (hB13.mono (by omega))
      have l3 := hB13.size
      generalize hz : comeL (fun x y : Int => max x y) v l = u at *
      have HZ := Lib.hid hz
      clear hz hB2 hB3
      have lg := hv3.lt
      have q0 := (hB13.cell (p := ⟨w.heap.size + 1 + 1, 0, none⟩) lc).trans r0
      have z0 := (hB13.frozen (p := ⟨w.heap.size + 1 + 1, 0, none⟩) lc).trans f0
      have q1 := (hB13.cell (p := ⟨w.heap.size + 1 + 1, 1, none⟩) lc).trans r1
      have z1 := (hB13.frozen (p := ⟨w.heap.size + 1 + 1, 1, none⟩) lc).trans f1
      have q2 := (hB13.cell (p := ⟨w.heap.size + 1 + 1, 2, none⟩) lc).trans r2
      have z2 := (hB13.frozen (p := ⟨w.heap.size + 1 + 1, 2, none⟩) lc).trans f2
      have q3 := (hB13.cell (p := ⟨w.heap.size + 1 + 1, 3, none⟩) lc).trans r3
      have z3 := (hB13.frozen (p := ⟨w.heap.size + 1 + 1, 3, none⟩) lc).trans f3
      have q4 := (hB13.cell (p := ⟨w.heap.size + 1 + 1, 4, none⟩) lc).trans r4
      have z4 := (hB13.frozen (p := ⟨w.heap.size + 1 + 1, 4, none⟩) lc).trans f4
      have q5 := (hB13.cell (p := ⟨w.heap.size + 1 + 1, 5, none⟩) lc).trans r5
      have z5 := (hB13.frozen (p := ⟨w.heap.size + 1 + 1, 5, none⟩) lc).trans f5
      have q6 := (hB13.cell (p := ⟨w.heap.size + 1 + 1, 6, none⟩) lc).trans r6
      have z6 := (hB13.frozen (p := ⟨w.heap.size + 1 + 1, 6, none⟩) lc).trans f6
      have q7 := (hB13.cell (p := ⟨w.heap.size + 1 + 1, 7, none⟩) lc).trans r7
      have z7 := (hB13.frozen (p := ⟨w.heap.size + 1 + 1, 7, none⟩) lc).trans f7
      have q8 := (hB13.cell (p := ⟨w.heap.size + 1 + 1, 8, none⟩) lc).trans r8
      have z8 := (hB13.frozen (p := ⟨w.heap.size + 1 + 1, 8, none⟩) lc).trans f8
      have q_e := (hB13.cell (p := ⟨w.heap.size + 1 + 1 + 1, 0, none⟩) le).trans re
      have q_z := (hB13.frozen (p := ⟨w.heap.size + 1 + 1 + 1, 0, none⟩) le).trans rz
      obtain ⟨c0, c1, c2, c3, c4, c5, c6, c7, c8⟩ := hv3.cells
      have le2 : w.heap.size + 1 + 1 + 1 < w3.heap.size := by omega
      have lc2 : w.heap.size + 1 + 1 < w3.heap.size := by omega
      clear r0 r1 r2 r3 r4 r5 r6 r7 r8 f0 f1 f2 f3 f4 f5 f6 f7 f8 re rz v0 v1 v2 v3 v4 v5 v6 v7 v8 hv3 hB13
      obtain ⟨W0, hW0⟩ : ∃ W0, ((((((((((w3.setCell ⟨w.heap.size + 1 + 1, 0, none⟩ (.int .u64 (u 0))).setCell ⟨w.heap.size + 1 + 1, 1, none⟩ (.int .u64 (u 1))).setCell ⟨w.heap.size + 1 + 1, 2, none⟩ (.int .u64 (u 2))).setCell ⟨w.heap.size + 1 + 1, 3, none⟩ (.int .u64 (u 3))).setCell ⟨w.heap.size + 1 + 1, 4, none⟩ (.int .u64 (u 4))).setCell ⟨w.heap.size + 1 + 1, 5, none⟩ (.int .u64 (u 5))).setCell ⟨w.heap.size + 1 + 1, 6, none⟩ (.int .u64 (u 6))).setCell ⟨w.heap.size + 1 + 1, 7, none⟩ (.int .u64 (u 7))).setCell ⟨w.heap.size + 1 + 1, 8, none⟩ (.int .u64 (u 8))).setCell ⟨w.heap.size + 1 + 1 + 1, 0, none⟩ (.int .i64 0)) = W0 := ⟨_, rfl⟩
      have k0 : W0.cell? ⟨w.heap.size + 1 + 1, 0, none⟩ = some (.int .u64 (u 0)) := by rw [← hW0]; simp [go_sem, q0]
      have k1 : W0.cell? ⟨w.heap.size + 1 + 1, 1, none⟩ = some (.int .u64 (u 1)) := by rw [← hW0]; simp [go_sem, q1]
      have k2 : W0.cell? ⟨w.heap.size + 1 + 1, 2, none⟩ = some (.int .u64 (u 2)) := by rw [← hW0]; simp [go_sem, q2]
      have k3 : W0.cell? ⟨w.heap.size + 1 + 1, 3, none⟩ = some (.int .u64 (u 3)) := by rw [← hW0]; simp [go_sem, q3]
      have k4 : W0.cell? ⟨w.heap.size + 1 + 1, 4, none⟩ = some (.int .u64 (u 4)) := by rw [← hW0]; simp [go_sem, q4]
      have k5 : W0.cell? ⟨w.heap.size + 1 + 1, 5, none⟩ = some (.int .u64 (u 5)) := by rw [← hW0]; simp [go_sem, q5]
      have k6 : W0.cell? ⟨w.heap.size + 1 + 1, 6, none⟩ = some (.int .u64 (u 6)) := by rw [← hW0]; simp [go_sem, q6]
      have k7 : W0.cell? ⟨w.heap.size + 1 + 1, 7, none⟩ = some (.int .u64 (u 7)) := by rw [← hW0]; simp [go_sem, q7]
      have k8 : W0.cell? ⟨w.heap.size + 1 + 1, 8, none⟩ = some (.int .u64 (u 8)) := by rw [← hW0]; simp [go_sem, q8]
      have ke : W0.cell? ⟨w.heap.size + 1 + 1 + 1, 0, none⟩ = some (.int .i64 0) := by rw [← hW0]; simp [go_sem, q_e]
      have kz : W0.frozen? ⟨w.heap.size + 1 + 1 + 1, 0, none⟩ = false := by rw [← hW0]; simp [go_sem, q_z]
      have hb0 : Below w.heap.size w W0 := by rw [← hW0]; exact ((((((((((hb3.setCell (p := ⟨w.heap.size + 1 + 1, 0, none⟩) (by dsimp only; omega) _).setCell (p := ⟨w.heap.size + 1 + 1, 1, none⟩) (by dsimp only; omega) _).setCell (p := ⟨w.heap.size + 1 + 1, 2, none⟩) (by dsimp only; omega) _).setCell (p := ⟨w.heap.size + 1 + 1, 3, none⟩) (by dsimp only; omega) _).setCell (p := ⟨w.heap.size + 1 + 1, 4, none⟩) (by dsimp only; omega) _).setCell (p := ⟨w.heap.size + 1 + 1, 5, none⟩) (by dsimp only; omega) _).setCell (p := ⟨w.heap.size + 1 + 1, 6, none⟩) (by dsimp only; omega) _).setCell (p := ⟨w.heap.size + 1 + 1, 7, none⟩) (by dsimp only; omega) _).setCell (p := ⟨w.heap.size + 1 + 1, 8, none⟩) (by dsimp only; omega) _).setCell (p := ⟨w.heap.size + 1 + 1 + 1, 0, none⟩) (by dsimp only; omega) _)
      have leW : w.heap.size + 1 + 1 + 1 < W0.heap.size := World.block_lt_of_cell? _ _ ke
      have lcW : w.heap.size + 1 + 1 < W0.heap.size := by omega
      go_wp2
      clear hW0
      refine leaves_cons (f := 51) (args := #[.pointer (some ⟨w.heap.size + 1 + 1 + 1, 0, none⟩)]) (by simp) (by simp [go_sem]) ?_
      refine (joined1_idle (w.heap.size + 1 + 1 + 1) _ _ ke kz).mono ?_
      rintro e u' w'' ⟨rfl, rfl, W, hBW, rfl⟩
      show Leaves _ _ _ _ [] .returning _
      refine ⟨.tuple #[vec u, .int .i64 0], ?_, by rw [HW.out], ?_⟩
      · have me := (hBW.cell (p := ⟨w.heap.size + 1 + 1 + 1, 0, none⟩) leW).trans ke
        have m0 := (hBW.cell (p := ⟨w.heap.size + 1 + 1, 0, none⟩) lcW).trans k0
        have m1 := (hBW.cell (p := ⟨w.heap.size + 1 + 1, 1, none⟩) lcW).trans k1
        have m2 := (hBW.cell (p := ⟨w.heap.size + 1 + 1, 2, none⟩) lcW).trans k2
        have m3 := (hBW.cell (p := ⟨w.heap.size + 1 + 1, 3, none⟩) lcW).trans k3
        have m4 := (hBW.cell (p := ⟨w.heap.size + 1 + 1, 4, none⟩) lcW).trans k4
        have m5 := (hBW.cell (p := ⟨w.heap.size + 1 + 1, 5, none⟩) lcW).trans k5
        have m6 := (hBW.cell (p := ⟨w.heap.size + 1 + 1, 6, none⟩) lcW).trans k6
        have m7 := (hBW.cell (p := ⟨w.heap.size + 1 + 1, 7, none⟩) lcW).trans k7
        have m8 := (hBW.cell (p := ⟨w.heap.size + 1 + 1, 8, none⟩) lcW).trans k8
        simp [results, Try.results42, go_sem, m0, m1, m2, m3, m4, m5, m6, m7, m8, me]
      · exact (hb0.trans (hBW.mono (by omega))).setCell (by dsimp only; omega) _

set_option maxRecDepth 4000 in
set_option maxHeartbeats 2000000 in
theorem joined_meet (v : V) (l : List V) (a0 : Option Addr) (cap : Nat) (w : World) (hl : rowVec w a0 l) (hmax : l.length ≤ 9223372036854775807) :
    Calls Try.prog 42 #[vec v, .slice a0 l.length cap, fnV 44] w fun e w' => e = .returned (.tuple #[vec (joinR (fun x y : Int => min x y) v l).1, .int .i64 (joinR (fun x y : Int => min x y) v l).2]) ∧ Below w.heap.size w w' := by
  have hmf : ∀ (fn : Fn) (first cap : Array Value) (w : World), (Instr.makeFunc fn first cap).run Try.prog w = .ok (.func fn first cap) w := fun _ _ _ _ => rfl
  have HL := Lib.hid hl
  clear hl
  cases hA : allMay l with
  | false =>
    have HW := Lib.hid (show joinR (fun x y : Int => min x y) v l = (V.zero, 230) by unfold joinR; rw [hA]; rfl)
    have HA := Lib.hid hA
    clear hA
    go_enter_defers Try.func42, Try.ntmps42
    go_wp2_with fail
    refine (are_any l a0 cap _ (rowV_below HL.out (((((Below.refl _ _).alloc (Nat.le_refl _) _).alloc (by simp) _).alloc (by simp; omega) _).alloc (by simp; omega) _)) hmax).mono ?_
    rintro e w1 ⟨rfl, hB⟩
    rw [HA.out]
    have b0 := hB.size
    simp only [World.size_alloc] at b0
    have lc : w.heap.size + 1 + 1 < w1.heap.size := by omega
    have le : w.heap.size + 1 + 1 + 1 < w1.heap.size := by omega
    have hb1 : Below w.heap.size w w1 := (((((Below.refl _ _).alloc (Nat.le_refl _) _).alloc (by simp) _).alloc (by simp; omega) _).alloc (by simp; omega) _).trans (hB.mono (by simp; omega))
    have r0 := hB.cell (p := ⟨w.heap.size + 1 + 1, 0, none⟩) (by simp <;> omega)
    have r1 := hB.cell (p := ⟨w.heap.size + 1 + 1, 1, none⟩) (by simp <;> omega)
    have r2 := hB.cell (p := ⟨w.heap.size + 1 + 1, 2, none⟩) (by simp <;> omega)
    have r3 := hB.cell (p := ⟨w.heap.size + 1 + 1, 3, none⟩) (by simp <;> omega)
    have r4 := hB.cell (p := ⟨w.heap.size + 1 + 1, 4, none⟩) (by simp <;> omega)
    have r5 := hB.cell (p := ⟨w.heap.size + 1 + 1, 5, none⟩) (by simp <;> omega)
    have r6 := hB.cell (p := ⟨w.heap.size + 1 + 1, 6, none⟩) (by simp <;> omega)
    have r7 := hB.cell (p := ⟨w.heap.size + 1 + 1, 7, none⟩) (by simp <;> omega)
    have r8 := hB.cell (p := ⟨w.heap.size + 1 + 1, 8, none⟩) (by simp <;> omega)
    have f0 := hB.frozen (p := ⟨w.heap.size + 1 + 1, 0, none⟩) (by simp <;> omega)
    have f1 := hB.frozen (p := ⟨w.heap.size + 1 + 1, 1, none⟩) (by simp <;> omega)
    have f2 := hB.frozen (p := ⟨w.heap.size + 1 + 1, 2, none⟩) (by simp <;> omega)
    have f3 := hB.frozen (p := ⟨w.heap.size + 1 + 1, 3, none⟩) (by simp <;> omega)
    have f4 := hB.frozen (p := ⟨w.heap.size + 1 + 1, 4, none⟩) (by simp <;> omega)
    have f5 := hB.frozen (p := ⟨w.heap.size + 1 + 1, 5, none⟩) (by simp <;> omega)
    have f6 := hB.frozen (p := ⟨w.heap.size + 1 + 1, 6, none⟩) (by simp <;> omega)
    have f7 := hB.frozen (p := ⟨w.heap.size + 1 + 1, 7, none⟩) (by simp <;> omega)
    have f8 := hB.frozen (p := ⟨w.heap.size + 1 + 1, 8, none⟩) (by simp <;> omega)
    have re := hB.cell (p := ⟨w.heap.size + 1 + 1 + 1, 0, none⟩) (by simp <;> omega)
    have rz := hB.frozen (p := ⟨w.heap.size + 1 + 1 + 1, 0, none⟩) (by simp <;> omega)
    have rc := hB.cell (p := ⟨w.heap.size + 1, 0, none⟩) (by simp <;> omega)
    have v0 := hB.cell (p := ⟨w.heap.size, 0, none⟩) (by simp <;> omega)
    have v1 := hB.cell (p := ⟨w.heap.size, 1, none⟩) (by simp <;> omega)
    have v2 := hB.cell (p := ⟨w.heap.size, 2, none⟩) (by simp <;> omega)
    have v3 := hB.cell (p := ⟨w.heap.size, 3, none⟩) (by simp <;> omega)
    have v4 := hB.cell (p := ⟨w.heap.size, 4, none⟩) (by simp <;> omega)
    have v5 := hB.cell (p := ⟨w.heap.size, 5, none⟩) (by simp <;> omega)
    have v6 := hB.cell (p := ⟨w.heap.size, 6, none⟩) (by simp <;> omega)
    have v7 := hB.cell (p := ⟨w.heap.size, 7, none⟩) (by simp <;> omega)
    have v8 := hB.cell (p := ⟨w.heap.size, 8, none⟩) (by simp <;> omega)
    simp [go_sem] at r0 r1 r2 r3 r4 r5 r6 r7 r8 f0 f1 f2 f3 f4 f5 f6 f7 f8 re rz rc v0 v1 v2 v3 v4 v5 v6 v7 v8
    clear f0 f1 f2 f3 f4 f5 f6 f7 f8 rc v0 v1 v2 v3 v4 v5 v6 v7 v8 hB
    go_wp2
    refine leaves_cons (f := 51) (args := #[.pointer (some ⟨w.heap.size + 1 + 1 + 1, 0, none⟩)]) (by simp) (by simp [go_sem]) ?_
    refine (joined1_panicking 230 (w.heap.size + 1 + 1 + 1) _ [] _ re rz).mono ?_
    rintro e u' w'' ⟨rfl, rfl, W, hBW, rfl⟩
    show Leaves _ _ _ _ [] .returning _
    refine ⟨.tuple #[zeroV, .int .i64 230], ?_, by rw [HW.out], ?_⟩
    · have k0 := (hBW.cell (p := ⟨w.heap.size + 1 + 1, 0, none⟩) lc).trans r0
      have k1 := (hBW.cell (p := ⟨w.heap.size + 1 + 1, 1, none⟩) lc).trans r1
      have k2 := (hBW.cell (p := ⟨w.heap.size + 1 + 1, 2, none⟩) lc).trans r2
      have k3 := (hBW.cell (p := ⟨w.heap.size + 1 + 1, 3, none⟩) lc).trans r3
      have k4 := (hBW.cell (p := ⟨w.heap.size + 1 + 1, 4, none⟩) lc).trans r4
      have k5 := (hBW.cell (p := ⟨w.heap.size + 1 + 1, 5, none⟩) lc).trans r5
      have k6 := (hBW.cell (p := ⟨w.heap.size + 1 + 1, 6, none⟩) lc).trans r6
      have k7 := (hBW.cell (p := ⟨w.heap.size + 1 + 1, 7, none⟩) lc).trans r7
      have k8 := (hBW.cell (p := ⟨w.heap.size + 1 + 1, 8, none⟩) lc).trans r8
      have ke := (hBW.cell (p := ⟨w.heap.size + 1 + 1 + 1, 0, none⟩) le).trans re
      simp [results, Try.results42, go_sem, k0, k1, k2, k3, k4, k5, k6, k7, k8, ke]
    · exact (hb1.trans (hBW.mono (by omega))).setCell (by dsimp only; omega) _
  | true =>
    go_enter_defers Try.func42, Try.ntmps42
    go_wp2_with fail
    refine (are_any l a0 cap _ (rowV_below HL.out (((((Below.refl _ _).alloc (Nat.le_refl _) _).alloc (by simp) _).alloc (by simp; omega) _).alloc (by simp; omega) _)) hmax).mono ?_
    rintro e w1 ⟨rfl, hB⟩
    rw [hA]
    have b0 := hB.size
    simp only [World.size_alloc] at b0
    have lv : w.heap.size < w1.heap.size := by omega
    have lcc : w.heap.size + 1 < w1.heap.size := by omega
    have lc : w.heap.size + 1 + 1 < w1.heap.size := by omega
    have le : w.heap.size + 1 + 1 + 1 < w1.heap.size := by omega
    have hb1 : Below w.heap.size w w1 := (((((Below.refl _ _).alloc (Nat.le_refl _) _).alloc (by simp) _).alloc (by simp; omega) _).alloc (by simp; omega) _).trans (hB.mono (by simp; omega))
    have r0 := hB.cell (p := ⟨w.heap.size + 1 + 1, 0, none⟩) (by simp <;> omega)
    have r1 := hB.cell (p := ⟨w.heap.size + 1 + 1, 1, none⟩) (by simp <;> omega)
    have r2 := hB.cell (p := ⟨w.heap.size + 1 + 1, 2, none⟩) (by simp <;> omega)
    have r3 := hB.cell (p := ⟨w.heap.size + 1 + 1, 3, none⟩) (by simp <;> omega)
    have r4 := hB.cell (p := ⟨w.heap.size + 1 + 1, 4, none⟩) (by simp <;> omega)
    have r5 := hB.cell (p := ⟨w.heap.size + 1 + 1, 5, none⟩) (by simp <;> omega)
    have r6 := hB.cell (p := ⟨w.heap.size + 1 + 1, 6, none⟩) (by simp <;> omega)
    have r7 := hB.cell (p := ⟨w.heap.size + 1 + 1, 7, none⟩) (by simp <;> omega)
    have r8 := hB.cell (p := ⟨w.heap.size + 1 + 1, 8, none⟩) (by simp <;> omega)
    have f0 := hB.frozen (p := ⟨w.heap.size + 1 + 1, 0, none⟩) (by simp <;> omega)
    have f1 := hB.frozen (p := ⟨w.heap.size + 1 + 1, 1, none⟩) (by simp <;> omega)
    have f2 := hB.frozen (p := ⟨w.heap.size + 1 + 1, 2, none⟩) (by simp <;> omega)
    have f3 := hB.frozen (p := ⟨w.heap.size + 1 + 1, 3, none⟩) (by simp <;> omega)
    have f4 := hB.frozen (p := ⟨w.heap.size + 1 + 1, 4, none⟩) (by simp <;> omega)
    have f5 := hB.frozen (p := ⟨w.heap.size + 1 + 1, 5, none⟩) (by simp <;> omega)
    have f6 := hB.frozen (p := ⟨w.heap.size + 1 + 1, 6, none⟩) (by simp <;> omega)
    have f7 := hB.frozen (p := ⟨w.heap.size + 1 + 1, 7, none⟩) (by simp <;> omega)
    have f8 := hB.frozen (p := ⟨w.heap.size + 1 + 1, 8, none⟩) (by simp <;> omega)
    have re := hB.cell (p := ⟨w.heap.size + 1 + 1 + 1, 0, none⟩) (by simp <;> omega)
    have rz := hB.frozen (p := ⟨w.heap.size + 1 + 1 + 1, 0, none⟩) (by simp <;> omega)
    have rc := hB.cell (p := ⟨w.heap.size + 1, 0, none⟩) (by simp <;> omega)
    have v0 := hB.cell (p := ⟨w.heap.size, 0, none⟩) (by simp <;> omega)
    have v1 := hB.cell (p := ⟨w.heap.size, 1, none⟩) (by simp <;> omega)
    have v2 := hB.cell (p := ⟨w.heap.size, 2, none⟩) (by simp <;> omega)
    have v3 := hB.cell (p := ⟨w.heap.size, 3, none⟩) (by simp <;> omega)
    have v4 := hB.cell (p := ⟨w.heap.size, 4, none⟩) (by simp <;> omega)
    have v5 := hB.cell (p := ⟨w.heap.size, 5, none⟩) (by simp <;> omega)
    have v6 := hB.cell (p := ⟨w.heap.size, 6, none⟩) (by simp <;> omega)
    have v7 := hB.cell (p := ⟨w.heap.size, 7, none⟩) (by simp <;> omega)
    have v8 := hB.cell (p := ⟨w.heap.size, 8, none⟩) (by simp <;> omega)
    simp [go_sem] at r0 r1 r2 r3 r4 r5 r6 r7 r8 f0 f1 f2 f3 f4 f5 f6 f7 f8 re rz rc v0 v1 v2 v3 v4 v5 v6 v7 v8
    clear hB
    go_wp2_with fail
    cases hm : v.may with
    | false =>
      have HW := Lib.hid (show joinR (fun x y : Int => min x y) v l = (V.zero, 230) by unfold joinR; rw [hA, hm]; rfl)
      refine (workedOf_no v hm _).mono ?_
      rintro e w2 ⟨rfl, hB2⟩
      have b2 := hB2.size
      have lc2 : w.heap.size + 1 + 1 < w2.heap.size := by omega
      have le2 : w.heap.size + 1 + 1 + 1 < w2.heap.size := by omega
      have q0 := (hB2.cell (p := ⟨w.heap.size + 1 + 1, 0, none⟩) lc).trans r0
      have q1 := (hB2.cell (p := ⟨w.heap.size + 1 + 1, 1, none⟩) lc).trans r1
      have q2 := (hB2.cell (p := ⟨w.heap.size + 1 + 1, 2, none⟩) lc).trans r2
      have q3 := (hB2.cell (p := ⟨w.heap.size + 1 + 1, 3, none⟩) lc).trans r3
      have q4 := (hB2.cell (p := ⟨w.heap.size + 1 + 1, 4, none⟩) lc).trans r4
      have q5 := (hB2.cell (p := ⟨w.heap.size + 1 + 1, 5, none⟩) lc).trans r5
      have q6 := (hB2.cell (p := ⟨w.heap.size + 1 + 1, 6, none⟩) lc).trans r6
      have q7 := (hB2.cell (p := ⟨w.heap.size + 1 + 1, 7, none⟩) lc).trans r7
      have q8 := (hB2.cell (p := ⟨w.heap.size + 1 + 1, 8, none⟩) lc).trans r8
      have q_e := (hB2.cell (p := ⟨w.heap.size + 1 + 1 + 1, 0, none⟩) le).trans re
      have q_z := (hB2.frozen (p := ⟨w.heap.size + 1 + 1 + 1, 0, none⟩) le).trans rz
      have hb2 : Below w.heap.size w w2 := hb1.trans (hB2.mono (by omega))
      clear r0 r1 r2 r3 r4 r5 r6 r7 r8 f0 f1 f2 f3 f4 f5 f6 f7 f8 re rz rc v0 v1 v2 v3 v4 v5 v6 v7 v8 hB2 hA hm
      go_wp2
      refine leaves_cons (f := 51) (args := #[.pointer (some ⟨w.heap.size + 1 + 1 + 1, 0, none⟩)]) (by simp) (by simp [go_sem]) ?_
      refine (joined1_panicking 230 (w.heap.size + 1 + 1 + 1) _ [] _ q_e q_z).mono ?_
      rintro e u' w'' ⟨rfl, rfl, W, hBW, rfl⟩
      show Leaves _ _ _ _ [] .returning _
      refine ⟨.tuple #[zeroV, .int .i64 230], ?_, by rw [HW.out], ?_⟩
      · have k0 := (hBW.cell (p := ⟨w.heap.size + 1 + 1, 0, none⟩) lc2).trans q0
        have k1 := (hBW.cell (p := ⟨w.heap.size + 1 + 1, 1, none⟩) lc2).trans q1
        have k2 := (hBW.cell (p := ⟨w.heap.size + 1 + 1, 2, none⟩) lc2).trans q2
        have k3 := (hBW.cell (p := ⟨w.heap.size + 1 + 1, 3, none⟩) lc2).trans q3
        have k4 := (hBW.cell (p := ⟨w.heap.size + 1 + 1, 4, none⟩) lc2).trans q4
        have k5 := (hBW.cell (p := ⟨w.heap.size + 1 + 1, 5, none⟩) lc2).trans q5
        have k6 := (hBW.cell (p := ⟨w.heap.size + 1 + 1, 6, none⟩) lc2).trans q6
        have k7 := (hBW.cell (p := ⟨w.heap.size + 1 + 1, 7, none⟩) lc2).trans q7
        have k8 := (hBW.cell (p := ⟨w.heap.size + 1 + 1, 8, none⟩) lc2).trans q8
        have ke := (hBW.cell (p := ⟨w.heap.size + 1 + 1 + 1, 0, none⟩) le2).trans q_e
        simp [results, Try.results42, go_sem, k0, k1, k2, k3, k4, k5, k6, k7, k8, ke]
      · exact (hb2.trans (hBW.mono (by omega))).setCell (by dsimp only; omega) _
    | true =>
      have HW := Lib.hid (show joinR (fun x y : Int => min x y) v l = (comeL (fun x y : Int => min x y) v l, 0) by unfold joinR; rw [hA, hm]; rfl)
      refine (workedOf_yes v hm _).mono ?_
      rintro e w2 ⟨g, rfl, hg, hv2, hB2⟩
      clear hA hm
      have q_c := (hB2.cell (p := ⟨w.heap.size + 1, 0, none⟩) lcc).trans rc
      have hC := Lib.hid (hb1.trans (hB2.mono (by omega)))
      have HC := Lib.hid q_c
      have HV2 := Lib.hid hv2
      clear hv2 q_c rc
      go_wp2_with fail
      refine (merged_meet v l a0 cap g (w.heap.size + 1) w w2 HL.out hmax hC.out (by omega) (by omega) HV2.out HC.out).mono ?_
      rintro e w3 ⟨rfl, hv3, hB3⟩
      have hB13 : Below w1.heap.size w1 w3 := hB2.trans (hB3.mono hg)
      have hb3 : Below w.heap.size w w3 := hb1.trans (hB13.mono (by omega))
      have l3 := hB13.size
      generalize hz : comeL (fun x y : Int => min x y) v l = u at *
      have HZ := Lib.hid hz
      clear hz hB2 hB3
      have lg := hv3.lt
      have q0 := (hB13.cell (p := ⟨w.heap.size + 1 + 1, 0, none⟩) lc).trans r0
      have z0 := (hB13.frozen (p := ⟨w.heap.size + 1 + 1, 0, none⟩) lc).trans f0
      have q1 := (hB13.cell (p := ⟨w.heap.size + 1 + 1, 1, none⟩) lc).trans r1
      have z1 := (hB13.frozen (p := ⟨w.heap.size + 1 + 1, 1, none⟩) lc).trans f1
      have q2 := (hB13.cell (p := ⟨w.heap.size + 1 + 1, 2, none⟩) lc).trans r2
      have z2 := (hB13.frozen (p := ⟨w.heap.size + 1 + 1, 2, none⟩) lc).trans f2
      have q3 := (hB13.cell (p := ⟨w.heap.size + 1 + 1, 3, none⟩) lc).trans r3
      have z3 := (hB13.frozen (p := ⟨w.heap.size + 1 + 1, 3, none⟩) lc).trans f3
      have q4 := (hB13.cell (p := ⟨w.heap.size + 1 + 1, 4, none⟩) lc).trans r4
      have z4 := (hB13.frozen (p := ⟨w.heap.size + 1 + 1, 4, none⟩) lc).trans f4
      have q5 := (hB13.cell (p := ⟨w.heap.size + 1 + 1, 5, none⟩) lc).trans r5
      have z5 := (hB13.frozen (p := ⟨w.heap.size + 1 + 1, 5, none⟩) lc).trans f5
      have q6 := (hB13.cell (p := ⟨w.heap.size + 1 + 1, 6, none⟩) lc).trans r6
      have z6 := (hB13.frozen (p := ⟨w.heap.size + 1 + 1, 6, none⟩) lc).trans f6
      have q7 := (hB13.cell (p := ⟨w.heap.size + 1 + 1, 7, none⟩) lc).trans r7
      have z7 := (hB13.frozen (p := ⟨w.heap.size + 1 + 1, 7, none⟩) lc).trans f7
      have q8 := (hB13.cell (p := ⟨w.heap.size + 1 + 1, 8, none⟩) lc).trans r8
      have z8 := (hB13.frozen (p := ⟨w.heap.size + 1 + 1, 8, none⟩) lc).trans f8
      have q_e := (hB13.cell (p := ⟨w.heap.size + 1 + 1 + 1, 0, none⟩) le).trans re
      have q_z := (hB13.frozen (p := ⟨w.heap.size + 1 + 1 + 1, 0, none⟩) le).trans rz
      obtain ⟨c0, c1, c2, c3, c4, c5, c6, c7, c8⟩ := hv3.cells
      have le2 : w.heap.size + 1 + 1 + 1 < w3.heap.size := by omega
      have lc2 : w.heap.size + 1 + 1 < w3.heap.size := by omega
      clear r0 r1 r2 r3 r4 r5 r6 r7 r8 f0 f1 f2 f3 f4 f5 f6 f7 f8 re rz v0 v1 v2 v3 v4 v5 v6 v7 v8 hv3 hB13
      obtain ⟨W0, hW0⟩ : ∃ W0, ((((((((((w3.setCell ⟨w.heap.size + 1 + 1, 0, none⟩ (.int .u64 (u 0))).setCell ⟨w.heap.size + 1 + 1, 1, none⟩ (.int .u64 (u 1))).setCell ⟨w.heap.size + 1 + 1, 2, none⟩ (.int .u64 (u 2))).setCell ⟨w.heap.size + 1 + 1, 3, none⟩ (.int .u64 (u 3))).setCell ⟨w.heap.size + 1 + 1, 4, none⟩ (.int .u64 (u 4))).setCell ⟨w.heap.size + 1 + 1, 5, none⟩ (.int .u64 (u 5))).setCell ⟨w.heap.size + 1 + 1, 6, none⟩ (.int .u64 (u 6))).setCell ⟨w.heap.size + 1 + 1, 7, none⟩ (.int .u64 (u 7))).setCell ⟨w.heap.size + 1 + 1, 8, none⟩ (.int .u64 (u 8))).setCell ⟨w.heap.size + 1 + 1 + 1, 0, none⟩ (.int .i64 0)) = W0 := ⟨_, rfl⟩
      have k0 : W0.cell? ⟨w.heap.size + 1 + 1, 0, none⟩ = some (.int .u64 (u 0)) := by rw [← hW0]; simp [go_sem, q0]
      have k1 : W0.cell? ⟨w.heap.size + 1 + 1, 1, none⟩ = some (.int .u64 (u 1)) := by rw [← hW0]; simp [go_sem, q1]
      have k2 : W0.cell? ⟨w.heap.size + 1 + 1, 2, none⟩ = some (.int .u64 (u 2)) := by rw [← hW0]; simp [go_sem, q2]
      have k3 : W0.cell? ⟨w.heap.size + 1 + 1, 3, none⟩ = some (.int .u64 (u 3)) := by rw [← hW0]; simp [go_sem, q3]
      have k4 : W0.cell? ⟨w.heap.size + 1 + 1, 4, none⟩ = some (.int .u64 (u 4)) := by rw [← hW0]; simp [go_sem, q4]
      have k5 : W0.cell? ⟨w.heap.size + 1 + 1, 5, none⟩ = some (.int .u64 (u 5)) := by rw [← hW0]; simp [go_sem, q5]
      have k6 : W0.cell? ⟨w.heap.size + 1 + 1, 6, none⟩ = some (.int .u64 (u 6)) := by rw [← hW0]; simp [go_sem, q6]
      have k7 : W0.cell? ⟨w.heap.size + 1 + 1, 7, none⟩ = some (.int .u64 (u 7)) := by rw [← hW0]; simp [go_sem, q7]
      have k8 : W0.cell? ⟨w.heap.size + 1 + 1, 8, none⟩ = some (.int .u64 (u 8)) := by rw [← hW0]; simp [go_sem, q8]
      have ke : W0.cell? ⟨w.heap.size + 1 + 1 + 1, 0, none⟩ = some (.int .i64 0) := by rw [← hW0]; simp [go_sem, q_e]
      have kz : W0.frozen? ⟨w.heap.size + 1 + 1 + 1, 0, none⟩ = false := by rw [← hW0]; simp [go_sem, q_z]
      have hb0 : Below w.heap.size w W0 := by rw [← hW0]; exact ((((((((((hb3.setCell (p := ⟨w.heap.size + 1 + 1, 0, none⟩) (by dsimp only; omega) _).setCell (p := ⟨w.heap.size + 1 + 1, 1, none⟩) (by dsimp only; omega) _).setCell (p := ⟨w.heap.size + 1 + 1, 2, none⟩) (by dsimp only; omega) _).setCell (p := ⟨w.heap.size + 1 + 1, 3, none⟩) (by dsimp only; omega) _).setCell (p := ⟨w.heap.size + 1 + 1, 4, none⟩) (by dsimp only; omega) _).setCell (p := ⟨w.heap.size + 1 + 1, 5, none⟩) (by dsimp only; omega) _).setCell (p := ⟨w.heap.size + 1 + 1, 6, none⟩) (by dsimp only; omega) _).setCell (p := ⟨w.heap.size + 1 + 1, 7, none⟩) (by dsimp only; omega) _).setCell (p := ⟨w.heap.size + 1 + 1, 8, none⟩) (by dsimp only; omega) _).setCell (p := ⟨w.heap.size + 1 + 1 + 1, 0, none⟩) (by dsimp only; omega) _)
      have leW : w.heap.size + 1 + 1 + 1 < W0.heap.size := World.block_lt_of_cell? _ _ ke
      have lcW : w.heap.size + 1 + 1 < W0.heap.size := by omega
      go_wp2
      clear hW0
      refine leaves_cons (f := 51) (args := #[.pointer (some ⟨w.heap.size + 1 + 1 + 1, 0, none⟩)]) (by simp) (by simp [go_sem]) ?_
      refine (joined1_idle (w.heap.size + 1 + 1 + 1) _ _ ke kz).mono ?_
      rintro e u' w'' ⟨rfl, rfl, W, hBW, rfl⟩
      show Leaves _ _ _ _ [] .returning _
      refine ⟨.tuple #[vec u, .int .i64 0], ?_, by rw [HW.out], ?_⟩
      · have me := (hBW.cell (p := ⟨w.heap.size + 1 + 1 + 1, 0, none⟩) leW).trans ke
        have m0 := (hBW.cell (p := ⟨w.heap.size + 1 + 1, 0, none⟩) lcW).trans k0
        have m1 := (hBW.cell (p := ⟨w.heap.size + 1 + 1, 1, none⟩) lcW).trans k1
        have m2 := (hBW.cell (p := ⟨w.heap.size + 1 + 1, 2, none⟩) lcW).trans k2
        have m3 := (hBW.cell (p := ⟨w.heap.size + 1 + 1, 3, none⟩) lcW).trans k3
        have m4 := (hBW.cell (p := ⟨w.heap.size + 1 + 1, 4, none⟩) lcW).trans k4
        have m5 := (hBW.cell (p := ⟨w.heap.size + 1 + 1, 5, none⟩) lcW).trans k5
        have m6 := (hBW.cell (p := ⟨w.heap.size + 1 + 1, 6, none⟩) lcW).trans k6
        have m7 := (hBW.cell (p := ⟨w.heap.size + 1 + 1, 7, none⟩) lcW).trans k7
        have m8 := (hBW.cell (p := ⟨w.heap.size + 1 + 1, 8, none⟩) lcW).trans k8
        simp [results, Try.results42, go_sem, m0, m1, m2, m3, m4, m5, m6, m7, m8, me]
      · exact (hb0.trans (hBW.mono (by omega))).setCell (by dsimp only; omega) _
end Go.Proofs.Ytjpgabpicfcapaa
