/- The walk of VectorFills. -/
import Derived.Test.YtjpgabpicfcapaaVf
import Derived.Test.YtjpgabpicfcapaaV16
namespace Go.Proofs.Ytjpgabpicfcapaa
open Go.RowKit

theorem row_alloc' (v : V) (W : World) (n : Nat) (hn : n = W.heap.size) : rowVec (W.alloc (.cells (vecA v) 24)) (some ⟨n, 0, none⟩) [v] := by
  subst hn; exact row_one v W
theorem holdsI.cells {w : World} {g : Nat} {t s q : Int} (h : holds w g [.int .u64 t, .int .i64 s, .int .u64 q]) : w.cell? ⟨g, 0, none⟩ = some (.int .u64 t) ∧ w.cell? ⟨g, 1, none⟩ = some (.int .i64 s) ∧ w.cell? ⟨g, 2, none⟩ = some (.int .u64 q) :=
  ⟨h.cell 0 (by simp), h.cell 1 (by simp), h.cell 2 (by simp)⟩
theorem holdsT.cells {w : World} {g : Nat} {s t q : Int} (h : holds w g [.int .i64 s, .int .u64 t, .int .u64 q]) : w.cell? ⟨g, 0, none⟩ = some (.int .i64 s) ∧ w.cell? ⟨g, 1, none⟩ = some (.int .u64 t) ∧ w.cell? ⟨g, 2, none⟩ = some (.int .u64 q) :=
  ⟨h.cell 0 (by simp), h.cell 1 (by simp), h.cell 2 (by simp)⟩
theorem withs_of {v n : V} {i : I3} (rv : v.rng) (h : withR v [i] = (n, 0)) (W : World) (g : Nat) (hI : blockIs W g #[.int .u64 i.t, .int .i64 i.s, .int .u64 i.q] 29) :
    Calls Try.prog 14 #[vec v, .slice (some ⟨g, 0, none⟩) 1 1] W fun e w' => e = .returned (.tuple #[vec n, .int .i64 0]) ∧ Below W.heap.size W w' := by
  have := with_any v rv [i] (some ⟨g, 0, none⟩) 1 W (row_block_one W g i hI) (by simp)
  rwa [h] at this
/-- a vector stored over another one -/
abbrev put9 (w : World) (g : Nat) (v : V) : World := ((((((((w.setCell ⟨g, 0, none⟩ (.int .u64 (v 0))).setCell ⟨g, 1, none⟩ (.int .u64 (v 1))).setCell ⟨g, 2, none⟩ (.int .u64 (v 2))).setCell ⟨g, 3, none⟩ (.int .u64 (v 3))).setCell ⟨g, 4, none⟩ (.int .u64 (v 4))).setCell ⟨g, 5, none⟩ (.int .u64 (v 5))).setCell ⟨g, 6, none⟩ (.int .u64 (v 6))).setCell ⟨g, 7, none⟩ (.int .u64 (v 7))).setCell ⟨g, 8, none⟩ (.int .u64 (v 8))
theorem put9_below {w0 w : World} {B g : Nat} (h : Below B w0 w) (hg : B ≤ g) (v : V) : Below B w0 (put9 w g v) :=
  ((((((((h.setCell (p := ⟨g, 0, none⟩) hg _).setCell (p := ⟨g, 1, none⟩) hg _).setCell (p := ⟨g, 2, none⟩) hg _).setCell (p := ⟨g, 3, none⟩) hg _).setCell (p := ⟨g, 4, none⟩) hg _).setCell (p := ⟨g, 5, none⟩) hg _).setCell (p := ⟨g, 6, none⟩) hg _).setCell (p := ⟨g, 7, none⟩) hg _).setCell (p := ⟨g, 8, none⟩) hg _
theorem put9_other {w : World} {g c : Nat} {l : List Value} (h : holds w c l) (hne : g ≠ c) (v : V) : holds (put9 w g v) c l :=
  holds_other (holds_other (holds_other (holds_other (holds_other (holds_other (holds_other (holds_other (holds_other h hne _) hne _) hne _) hne _) hne _) hne _) hne _) hne _) hne _

set_option maxRecDepth 4000 in
set_option maxHeartbeats 2000000 in
theorem fills_no (a b : V) (ra : a.rng) (hm : (a.may && b.may) = false) (w : World) :
    Calls Try.prog 6 #[vec a, vec b] w fun e w' => e = .returned (.bool true) ∧ Below w.heap.size w w' := by
  have hlk := lacks_no a b hm
  have hmc := fun W => many_any a b ra W
  have hl : lacksL a b = [] := by unfold lacksL; rw [if_neg (by rw [hm]; simp)]
  simp only [hl, manyS] at hmc
  have hcv := fun W => covers_any a b W
  have hc0 : coversB a b = false := by unfold coversB; rw [hm]; rfl
  simp only [hc0] at hcv
  have hca := fun W => check_any a W
  have hcb := fun W => check_any b W
  have HLK := Lib.hid hlk
  have HMC := Lib.hid hmc
  have HCV := Lib.hid hcv
  have hab : (errOr a.may 230, errOr b.may 230) ≠ (0, 0) := by
    cases h1 : a.may <;> cases h2 : b.may <;> simp [errOr, h1, h2] at hm ⊢
  have HAB := Lib.hid hab
  have HCA := Lib.hid hca
  have HCB := Lib.hid hcb
  clear hlk hmc hcv hl hc0 hm hca hcb hab
  go_enter Try.func6, Try.ntmps6
  go_wp2_with fail
  refine (wakes_any _).mono ?_
  rintro e w1 ⟨rfl, hB⟩
  have hb1 : Below w.heap.size w w1 := ((((Below.refl _ _).alloc (Nat.le_refl _) _).alloc (by simp) _)).trans (hB.mono (by simp <;> omega))
  have ha1 : vecIn w1 w.heap.size a := holds_below (holds_alloc (vecIn_new w a) _) hB (by simp <;> omega)
  have hv1 : vecIn w1 (w.heap.size + 1) b := by
    have := vecIn_new (w.alloc (.cells (vecA a) 24)) b
    rw [World.size_alloc] at this
    exact holds_below this hB (by simp <;> omega)
  clear hB
  obtain ⟨a0, a1, a2, a3, a4, a5, a6, a7, a8⟩ := ha1.cells
  obtain ⟨b0, b1, b2, b3, b4, b5, b6, b7, b8⟩ := hv1.cells
  have HB1 := Lib.hid hb1
  have HA1 := Lib.hid ha1
  have HV1 := Lib.hid hv1
  clear hb1 ha1 hv1
  go_wp2_with fail
  refine (HLK.out _).mono ?_
  rintro e w2 ⟨rfl, hB⟩
  clear a0 a1 a2 a3 a4 a5 a6 a7 a8 b0 b1 b2 b3 b4 b5 b6 b7 b8
  have hb2 : Below w.heap.size w w2 := HB1.out.trans (hB.mono HB1.out.size)
  have ha2 : vecIn w2 w.heap.size a := holds_below HA1.out hB HA1.out.lt
  have hv2 : vecIn w2 (w.heap.size + 1) b := holds_below HV1.out hB HV1.out.lt
  clear hB HA1 HV1 HB1
  obtain ⟨a0, a1, a2, a3, a4, a5, a6, a7, a8⟩ := ha2.cells
  obtain ⟨b0, b1, b2, b3, b4, b5, b6, b7, b8⟩ := hv2.cells
  have HB2 := Lib.hid hb2
  have HA2 := Lib.hid ha2
  have HV2 := Lib.hid hv2
  clear hb2 ha2 hv2
  go_wp2_with fail
  refine (HCA.out _).mono ?_
  rintro e w3 ⟨rfl, hB⟩
  clear a0 a1 a2 a3 a4 a5 a6 a7 a8 b0 b1 b2 b3 b4 b5 b6 b7 b8
  have hb3 : Below w.heap.size w w3 := HB2.out.trans (hB.mono HB2.out.size)
  have ha3 : vecIn w3 w.heap.size a := holds_below HA2.out hB HA2.out.lt
  have hv3 : vecIn w3 (w.heap.size + 1) b := holds_below HV2.out hB HV2.out.lt
  clear hB HA2 HV2 HB2
  cases h1 : a.may with
  | false =>
    simp only [h1, errOr] at *
    obtain ⟨a0, a1, a2, a3, a4, a5, a6, a7, a8⟩ := ha3.cells
    obtain ⟨b0, b1, b2, b3, b4, b5, b6, b7, b8⟩ := hv3.cells
    have HB3 := Lib.hid hb3
    have HA3 := Lib.hid ha3
    have HV3 := Lib.hid hv3
    clear hb3 ha3 hv3
    go_wp2_with fail
    refine (HCV.out _).mono ?_
    rintro e w4 ⟨rfl, hB⟩
    clear a0 a1 a2 a3 a4 a5 a6 a7 a8 b0 b1 b2 b3 b4 b5 b6 b7 b8
    have hb4 : Below w.heap.size w w4 := HB3.out.trans (hB.mono HB3.out.size)
    have ha4 : vecIn w4 w.heap.size a := holds_below HA3.out hB HA3.out.lt
    have hv4 : vecIn w4 (w.heap.size + 1) b := holds_below HV3.out hB HV3.out.lt
    clear hB HA3 HV3 HB3
    obtain ⟨a0, a1, a2, a3, a4, a5, a6, a7, a8⟩ := ha4.cells
    obtain ⟨b0, b1, b2, b3, b4, b5, b6, b7, b8⟩ := hv4.cells
    have HB4 := Lib.hid hb4
    have HA4 := Lib.hid ha4
    have HV4 := Lib.hid hv4
    clear hb4 ha4 hv4
    go_wp2_with fail
    refine (HMC.out _).mono ?_
    rintro e w5 ⟨rfl, hB⟩
    clear a0 a1 a2 a3 a4 a5 a6 a7 a8 b0 b1 b2 b3 b4 b5 b6 b7 b8
    have hb5 : Below w.heap.size w w5 := HB4.out.trans (hB.mono HB4.out.size)
    have ha5 : vecIn w5 w.heap.size a := holds_below HA4.out hB HA4.out.lt
    have hv5 : vecIn w5 (w.heap.size + 1) b := holds_below HV4.out hB HV4.out.lt
    clear hB HA4 HV4 HB4
    go_wp2_with fail
    exact ⟨rfl, _, results_tmp rfl _ _ _, rfl, hb5⟩
  | true =>
    cases h2 : b.may with
    | true => exact absurd (by rw [h1, h2]; rfl) HAB.out
    | false =>
      simp only [h1, h2, errOr] at *
      obtain ⟨a0, a1, a2, a3, a4, a5, a6, a7, a8⟩ := ha3.cells
      obtain ⟨b0, b1, b2, b3, b4, b5, b6, b7, b8⟩ := hv3.cells
      have HB3 := Lib.hid hb3
      have HA3 := Lib.hid ha3
      have HV3 := Lib.hid hv3
      clear hb3 ha3 hv3
      go_wp2_with fail
      refine (HCB.out _).mono ?_
      rintro e w4 ⟨rfl, hB⟩
      clear a0 a1 a2 a3 a4 a5 a6 a7 a8 b0 b1 b2 b3 b4 b5 b6 b7 b8
      have hb4 : Below w.heap.size w w4 := HB3.out.trans (hB.mono HB3.out.size)
      have ha4 : vecIn w4 w.heap.size a := holds_below HA3.out hB HA3.out.lt
      have hv4 : vecIn w4 (w.heap.size + 1) b := holds_below HV3.out hB HV3.out.lt
      clear hB HA3 HV3 HB3
      obtain ⟨a0, a1, a2, a3, a4, a5, a6, a7, a8⟩ := ha4.cells
      obtain ⟨b0, b1, b2, b3, b4, b5, b6, b7, b8⟩ := hv4.cells
      have HB4 := Lib.hid hb4
      have HA4 := Lib.hid ha4
      have HV4 := Lib.hid hv4
      clear hb4 ha4 hv4
      go_wp2_with fail
      refine (HCV.out _).mono ?_
      rintro e w5 ⟨rfl, hB⟩
      clear a0 a1 a2 a3 a4 a5 a6 a7 a8 b0 b1 b2 b3 b4 b5 b6 b7 b8
      have hb5 : Below w.heap.size w w5 := HB4.out.trans (hB.mono HB4.out.size)
      have ha5 : vecIn w5 w.heap.size a := holds_below HA4.out hB HA4.out.lt
      have hv5 : vecIn w5 (w.heap.size + 1) b := holds_below HV4.out hB HV4.out.lt
      clear hB HA4 HV4 HB4
      obtain ⟨a0, a1, a2, a3, a4, a5, a6, a7, a8⟩ := ha5.cells
      obtain ⟨b0, b1, b2, b3, b4, b5, b6, b7, b8⟩ := hv5.cells
      have HB5 := Lib.hid hb5
      have HA5 := Lib.hid ha5
      have HV5 := Lib.hid hv5
      clear hb5 ha5 hv5
      go_wp2_with fail
      refine (HMC.out _).mono ?_
      rintro e w6 ⟨rfl, hB⟩
      clear a0 a1 a2 a3 a4 a5 a6 a7 a8 b0 b1 b2 b3 b4 b5 b6 b7 b8
      have hb6 : Below w.heap.size w w6 := HB5.out.trans (hB.mono HB5.out.size)
      have ha6 : vecIn w6 w.heap.size a := holds_below HA5.out hB HA5.out.lt
      have hv6 : vecIn w6 (w.heap.size + 1) b := holds_below HV5.out hB HV5.out.lt
      clear hB HA5 HV5 HB5
      go_wp2_with fail
      exact ⟨rfl, _, results_tmp rfl _ _ _, rfl, hb6⟩
end Go.Proofs.Ytjpgabpicfcapaa
