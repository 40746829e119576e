/- The walk of VectorBounds. -/
import Derived.Test.YtjpgabpicfcapaaVb
import Derived.Test.YtjpgabpicfcapaaV8
namespace Go.Proofs.Ytjpgabpicfcapaa
open Go.RowKit

def five (a b c J M : V) (n j m : Nat) (W : World) : Prop := vecIn W n a ∧ vecIn W (n + 1) b ∧ vecIn W (n + 1 + 1) c ∧ vecIn W j J ∧ vecIn W m M
theorem five_below {a b c J M : V} {n j m : Nat} {W W' : World} (h : five a b c J M n j m W) (hB : Below W.heap.size W W') : five a b c J M n j m W' :=
  ⟨holds_below h.1 hB h.1.lt, holds_below h.2.1 hB h.2.1.lt, holds_below h.2.2.1 hB h.2.2.1.lt, holds_below h.2.2.2.1 hB h.2.2.2.1.lt, holds_below h.2.2.2.2 hB h.2.2.2.2.lt⟩
theorem row_alloc (v : V) (W : World) (n : Nat) (hn : n = W.heap.size) : rowVec (W.alloc (.cells (vecA v) 24)) (some ⟨n, 0, none⟩) [v] := by
  subst hn; exact row_one v W

set_option maxRecDepth 4000 in
set_option maxHeartbeats 4000000 in
theorem bounds_no (a b c : V) (hm : (a.may && b.may) = false) (hwk : ∀ w : World, Calls Try.prog 7 #[] w fun e w' => e = .returned (.bool true) ∧ Below w.heap.size w w') (w : World) :
    Calls Try.prog 5 #[vec a, vec b, vec c] w fun e w' => e = .returned (.bool true) ∧ Below w.heap.size w w' := by
  have hjr : joinR (fun x y : Int => max x y) a [b] = (V.zero, 230) := by rw [joinR_one, hm]; rfl
  have hmr : joinR (fun x y : Int => min x y) a [b] = (V.zero, 230) := by rw [joinR_one, hm]; rfl
  have HM := Lib.hid hm
  clear hm
  have hjc := fun (g : Nat) (W : World) h => join_any a [b] (some ⟨g, 0, none⟩) 1 W h (by simp)
  have hmc := fun (g : Nat) (W : World) h => meet_any a [b] (some ⟨g, 0, none⟩) 1 W h (by simp)
  rw [hjr] at hjc
  rw [hmr] at hmc
  have HJ := Lib.hid hjc
  have HN := Lib.hid hmc
  clear hjr hmr hjc hmc
  go_enter Try.func5, Try.ntmps5
  go_wp2_with fail
  refine (hwk _).mono ?_
  clear hwk
  rintro e w1 ⟨rfl, hB⟩
  have s0 := hB.size
  simp only [World.size_alloc] at s0
  have hb1 : Below w.heap.size w w1 := ((((Below.refl _ _).alloc (Nat.le_refl _) _).alloc (by simp) _).alloc (by simp; omega) _).trans (hB.mono (by simp <;> omega))
  have ha1 : vecIn w1 w.heap.size a := holds_below (holds_alloc (holds_alloc (vecIn_new w a) _) _) hB (by simp <;> omega)
  have hv1 : vecIn w1 (w.heap.size + 1) b := by
    have := vecIn_new (w.alloc (.cells (vecA a) 24)) b
    rw [World.size_alloc] at this
    exact holds_below (holds_alloc this _) hB (by simp <;> omega)
  have hc1 : vecIn w1 (w.heap.size + 1 + 1) c := by
    have := vecIn_new ((w.alloc (.cells (vecA a) 24)).alloc (.cells (vecA b) 24)) c
    rw [World.size_alloc, World.size_alloc] at this
    exact holds_below this hB (by simp <;> omega)
  clear hB
  have la := ha1.lt
  have lb := hv1.lt
  have lc := hc1.lt
  have HA := Lib.hid ha1
  have HV := Lib.hid hv1
  have HC := Lib.hid hc1
  obtain ⟨a0, a1, a2, a3, a4, a5, a6, a7, a8⟩ := ha1.cells
  obtain ⟨b0, b1, b2, b3, b4, b5, b6, b7, b8⟩ := hv1.cells
  clear ha1 hv1 hc1
  go_wp2_with fail
  refine (HJ.out _ _ (row_alloc b w1 _ rfl)).mono ?_
  rintro e w2 ⟨rfl, hB⟩
  have s2 := hB.size
  simp only [World.size_alloc] at s2
  have hb2 : Below w1.heap.size w1 w2 := ((Below.refl _ _).alloc (Nat.le_refl _) _).trans (hB.mono (by simp))
  clear hB
  have ha2 : vecIn w2 w.heap.size a := holds_below HA.out hb2 la
  have hv2 : vecIn w2 (w.heap.size + 1) b := holds_below HV.out hb2 lb
  have la2 : w.heap.size < w2.heap.size := by omega
  have lb2 : w.heap.size + 1 < w2.heap.size := by omega
  clear a0 a1 a2 a3 a4 a5 a6 a7 a8 b0 b1 b2 b3 b4 b5 b6 b7 b8
  obtain ⟨a0, a1, a2, a3, a4, a5, a6, a7, a8⟩ := ha2.cells
  obtain ⟨b0, b1, b2, b3, b4, b5, b6, b7, b8⟩ := hv2.cells
  clear ha2 hv2
  go_wp2_with fail
  have hrow : rowVec ((w2.alloc (.cells (vecA V.zero) 24)).alloc (.cells (vecA b) 24)) (some ⟨w2.heap.size + 1, 0, none⟩) [b] := row_alloc b _ _ (by simp)
  have hJ2 : vecIn (w2.alloc (.cells (vecA V.zero) 24)) w2.heap.size V.zero := vecIn_new w2 V.zero
  refine (HN.out _ _ hrow).mono ?_
  clear hrow
  rintro e w3 ⟨rfl, hB⟩
  have s3 := hB.size
  simp only [World.size_alloc] at s3
  have hJ3 : vecIn w3 w2.heap.size V.zero := holds_below (holds_alloc hJ2 _) hB (by simp <;> omega)
  have hb3 : Below w1.heap.size w1 w3 := ((hb2.alloc (by omega) _).alloc (by simp <;> omega) _).trans (hB.mono (by simp <;> omega))
  clear hB hJ2
  have hA3 : vecIn w3 w.heap.size a := holds_below HA.out hb3 la
  have hV3 : vecIn w3 (w.heap.size + 1) b := holds_below HV.out hb3 lb
  have hC3 : vecIn w3 (w.heap.size + 1 + 1) c := holds_below HC.out hb3 lc
  have hb3w : Below w.heap.size w w3 := hb1.trans (hb3.mono (by omega))
  have lJ := hJ3.lt
  have la3 : w.heap.size < w3.heap.size := by omega
  have lb3 : w.heap.size + 1 < w3.heap.size := by omega
  have lc3 : w.heap.size + 1 + 1 < w3.heap.size := by omega
  clear a0 a1 a2 a3 a4 a5 a6 a7 a8 b0 b1 b2 b3 b4 b5 b6 b7 b8
  clear hb1 hb2 hb3 la lb lc la2 lb2 s0 s2 s3 HA HV HC HJ HN
  obtain ⟨j0, j1, j2, j3, j4, j5, j6, j7, j8⟩ := hJ3.cells
  have hqz := run_eql_zero V.zero
  rw [V.same_self] at hqz
  go_wp2_with fail
  exact ⟨rfl, _, results_tmp rfl _ _ _, rfl, hb3w.alloc (by omega) _⟩

set_option maxRecDepth 4000 in
set_option maxHeartbeats 4000000 in
theorem bounds_yes (a b c : V) (ra : a.rng) (rb : b.rng) (hm : (a.may && b.may) = true) (hwk : ∀ w : World, Calls Try.prog 7 #[] w fun e w' => e = .returned (.bool true) ∧ Below w.heap.size w w') (w : World) :
    Calls Try.prog 5 #[vec a, vec b, vec c] w fun e w' => e = .returned (.bool true) ∧ Below w.heap.size w w' := by
  have hjr : joinR (fun x y : Int => max x y) a [b] = (joinV a b, 0) := by rw [joinR_one, hm]; rfl
  have hmr : joinR (fun x y : Int => min x y) a [b] = (meetV a b, 0) := by rw [joinR_one, hm]; rfl
  have HM := Lib.hid hm
  clear hm
  have hjc := fun (g : Nat) (W : World) h => join_any a [b] (some ⟨g, 0, none⟩) 1 W h (by simp)
  have hmc := fun (g : Nat) (W : World) h => meet_any a [b] (some ⟨g, 0, none⟩) 1 W h (by simp)
  rw [hjr] at hjc
  rw [hmr] at hmc
  have HJ := Lib.hid hjc
  have HN := Lib.hid hmc
  clear hjr hmr hjc hmc
  go_enter Try.func5, Try.ntmps5
  go_wp2_with fail
  refine (hwk _).mono ?_
  clear hwk
  rintro e w1 ⟨rfl, hB⟩
  have s0 := hB.size
  simp only [World.size_alloc] at s0
  have hb1 : Below w.heap.size w w1 := ((((Below.refl _ _).alloc (Nat.le_refl _) _).alloc (by simp) _).alloc (by simp; omega) _).trans (hB.mono (by simp <;> omega))
  have ha1 : vecIn w1 w.heap.size a := holds_below (holds_alloc (holds_alloc (vecIn_new w a) _) _) hB (by simp <;> omega)
  have hv1 : vecIn w1 (w.heap.size + 1) b := by
    have := vecIn_new (w.alloc (.cells (vecA a) 24)) b
    rw [World.size_alloc] at this
    exact holds_below (holds_alloc this _) hB (by simp <;> omega)
  have hc1 : vecIn w1 (w.heap.size + 1 + 1) c := by
    have := vecIn_new ((w.alloc (.cells (vecA a) 24)).alloc (.cells (vecA b) 24)) c
    rw [World.size_alloc, World.size_alloc] at this
    exact holds_below this hB (by simp <;> omega)
  clear hB
  have la := ha1.lt
  have lb := hv1.lt
  have lc := hc1.lt
  have HA := Lib.hid ha1
  have HV := Lib.hid hv1
  have HC := Lib.hid hc1
  obtain ⟨a0, a1, a2, a3, a4, a5, a6, a7, a8⟩ := ha1.cells
  obtain ⟨b0, b1, b2, b3, b4, b5, b6, b7, b8⟩ := hv1.cells
  clear ha1 hv1 hc1
  go_wp2_with fail
  refine (HJ.out _ _ (row_alloc b w1 _ rfl)).mono ?_
  rintro e w2 ⟨rfl, hB⟩
  have s2 := hB.size
  simp only [World.size_alloc] at s2
  have hb2 : Below w1.heap.size w1 w2 := ((Below.refl _ _).alloc (Nat.le_refl _) _).trans (hB.mono (by simp))
  clear hB
  have ha2 : vecIn w2 w.heap.size a := holds_below HA.out hb2 la
  have hv2 : vecIn w2 (w.heap.size + 1) b := holds_below HV.out hb2 lb
  have la2 : w.heap.size < w2.heap.size := by omega
  have lb2 : w.heap.size + 1 < w2.heap.size := by omega
  clear a0 a1 a2 a3 a4 a5 a6 a7 a8 b0 b1 b2 b3 b4 b5 b6 b7 b8
  obtain ⟨a0, a1, a2, a3, a4, a5, a6, a7, a8⟩ := ha2.cells
  obtain ⟨b0, b1, b2, b3, b4, b5, b6, b7, b8⟩ := hv2.cells
  clear ha2 hv2
  go_wp2_with fail
  have hrow : rowVec ((w2.alloc (.cells (vecA (joinV a b)) 24)).alloc (.cells (vecA b) 24)) (some ⟨w2.heap.size + 1, 0, none⟩) [b] := row_alloc b _ _ (by simp)
  have hJ2 : vecIn (w2.alloc (.cells (vecA (joinV a b)) 24)) w2.heap.size (joinV a b) := vecIn_new w2 (joinV a b)
  refine (HN.out _ _ hrow).mono ?_
  clear hrow
  rintro e w3 ⟨rfl, hB⟩
  have s3 := hB.size
  simp only [World.size_alloc] at s3
  have hJ3 : vecIn w3 w2.heap.size (joinV a b) := holds_below (holds_alloc hJ2 _) hB (by simp <;> omega)
  have hb3 : Below w1.heap.size w1 w3 := ((hb2.alloc (by omega) _).alloc (by simp <;> omega) _).trans (hB.mono (by simp <;> omega))
  clear hB hJ2
  have hA3 : vecIn w3 w.heap.size a := holds_below HA.out hb3 la
  have hV3 : vecIn w3 (w.heap.size + 1) b := holds_below HV.out hb3 lb
  have hC3 : vecIn w3 (w.heap.size + 1 + 1) c := holds_below HC.out hb3 lc
  have hb3w : Below w.heap.size w w3 := hb1.trans (hb3.mono (by omega))
  have lJ := hJ3.lt
  have la3 : w.heap.size < w3.heap.size := by omega
  have lb3 : w.heap.size + 1 < w3.heap.size := by omega
  have lc3 : w.heap.size + 1 + 1 < w3.heap.size := by omega
  clear a0 a1 a2 a3 a4 a5 a6 a7 a8 b0 b1 b2 b3 b4 b5 b6 b7 b8
  clear hb1 hb2 hb3 la lb lc la2 lb2 s0 s2 s3 HA HV HC HJ HN
  have ma : a.may = true := by have := HM.out; simp only [Bool.and_eq_true] at this; exact this.1
  have mb : b.may = true := by have := HM.out; simp only [Bool.and_eq_true] at this; exact this.2
  obtain ⟨j0, j1, j2, j3, j4, j5, j6, j7, j8⟩ := hJ3.cells
  obtain ⟨a0, a1, a2, a3, a4, a5, a6, a7, a8⟩ := hA3.cells
  obtain ⟨b0, b1, b2, b3, b4, b5, b6, b7, b8⟩ := hV3.cells
  obtain ⟨c0, c1, c2, c3, c4, c5, c6, c7, c8⟩ := hC3.cells
  go_wp2_with fail
  have H5 := Lib.hid (show five a b c (joinV a b) (meetV a b) w.heap.size w2.heap.size w3.heap.size (w3.alloc (.cells (vecA (meetV a b)) 24)) from ⟨holds_alloc hA3 _, holds_alloc hV3 _, holds_alloc hC3 _, holds_alloc hJ3 _, vecIn_new w3 (meetV a b)⟩)
  have HBW := Lib.hid (hb3w.alloc (by omega) (.cells (vecA (meetV a b)) 24))
  have m0 := 0
  have m1 := 0
  have m2 := 0
  have m3 := 0
  have m4 := 0
  have m5 := 0
  have m6 := 0
  have m7 := 0
  have m8 := 0
  clear hA3 hV3 hC3 hJ3 hb3w HM la3 lb3 lc3 lJ
  refine (covers_any (joinV a b) (a) _).mono ?_
  rintro e w9 ⟨rfl, hB⟩
  clear a0 a1 a2 a3 a4 a5 a6 a7 a8 b0 b1 b2 b3 b4 b5 b6 b7 b8 c0 c1 c2 c3 c4 c5 c6 c7 c8 j0 j1 j2 j3 j4 j5 j6 j7 j8 m0 m1 m2 m3 m4 m5 m6 m7 m8
  have H6 := Lib.hid (five_below H5.out hB)
  have HB6 := Lib.hid (HBW.out.trans (hB.mono HBW.out.size))
  clear hB H5 HBW
  have H5 := Lib.hid H6.out
  have HBW := Lib.hid HB6.out
  clear H6 HB6
  rw [join_left ma mb]
  obtain ⟨fa, fb, fc, fj, fm⟩ := id H5.out
  obtain ⟨a0, a1, a2, a3, a4, a5, a6, a7, a8⟩ := fa.cells
  obtain ⟨b0, b1, b2, b3, b4, b5, b6, b7, b8⟩ := fb.cells
  obtain ⟨c0, c1, c2, c3, c4, c5, c6, c7, c8⟩ := fc.cells
  obtain ⟨j0, j1, j2, j3, j4, j5, j6, j7, j8⟩ := fj.cells
  obtain ⟨m0, m1, m2, m3, m4, m5, m6, m7, m8⟩ := fm.cells
  clear fa fb fc fj fm
  go_wp2_with fail
  refine (covers_any (joinV a b) (b) _).mono ?_
  rintro e w9 ⟨rfl, hB⟩
  clear a0 a1 a2 a3 a4 a5 a6 a7 a8 b0 b1 b2 b3 b4 b5 b6 b7 b8 c0 c1 c2 c3 c4 c5 c6 c7 c8 j0 j1 j2 j3 j4 j5 j6 j7 j8 m0 m1 m2 m3 m4 m5 m6 m7 m8
  have H6 := Lib.hid (five_below H5.out hB)
  have HB6 := Lib.hid (HBW.out.trans (hB.mono HBW.out.size))
  clear hB H5 HBW
  have H5 := Lib.hid H6.out
  have HBW := Lib.hid HB6.out
  clear H6 HB6
  rw [join_right ma mb]
  obtain ⟨fa, fb, fc, fj, fm⟩ := id H5.out
  obtain ⟨a0, a1, a2, a3, a4, a5, a6, a7, a8⟩ := fa.cells
  obtain ⟨b0, b1, b2, b3, b4, b5, b6, b7, b8⟩ := fb.cells
  obtain ⟨c0, c1, c2, c3, c4, c5, c6, c7, c8⟩ := fc.cells
  obtain ⟨j0, j1, j2, j3, j4, j5, j6, j7, j8⟩ := fj.cells
  obtain ⟨m0, m1, m2, m3, m4, m5, m6, m7, m8⟩ := fm.cells
  clear fa fb fc fj fm
  go_wp2_with fail
  refine (covers_any (a) (meetV a b) _).mono ?_
  rintro e w9 ⟨rfl, hB⟩
  clear a0 a1 a2 a3 a4 a5 a6 a7 a8 b0 b1 b2 b3 b4 b5 b6 b7 b8 c0 c1 c2 c3 c4 c5 c6 c7 c8 j0 j1 j2 j3 j4 j5 j6 j7 j8 m0 m1 m2 m3 m4 m5 m6 m7 m8
  have H6 := Lib.hid (five_below H5.out hB)
  have HB6 := Lib.hid (HBW.out.trans (hB.mono HBW.out.size))
  clear hB H5 HBW
  have H5 := Lib.hid H6.out
  have HBW := Lib.hid HB6.out
  clear H6 HB6
  rw [meet_left ma mb]
  obtain ⟨fa, fb, fc, fj, fm⟩ := id H5.out
  obtain ⟨a0, a1, a2, a3, a4, a5, a6, a7, a8⟩ := fa.cells
  obtain ⟨b0, b1, b2, b3, b4, b5, b6, b7, b8⟩ := fb.cells
  obtain ⟨c0, c1, c2, c3, c4, c5, c6, c7, c8⟩ := fc.cells
  obtain ⟨j0, j1, j2, j3, j4, j5, j6, j7, j8⟩ := fj.cells
  obtain ⟨m0, m1, m2, m3, m4, m5, m6, m7, m8⟩ := fm.cells
  clear fa fb fc fj fm
  go_wp2_with fail
  refine (covers_any (b) (meetV a b) _).mono ?_
  rintro e w9 ⟨rfl, hB⟩
  clear a0 a1 a2 a3 a4 a5 a6 a7 a8 b0 b1 b2 b3 b4 b5 b6 b7 b8 c0 c1 c2 c3 c4 c5 c6 c7 c8 j0 j1 j2 j3 j4 j5 j6 j7 j8 m0 m1 m2 m3 m4 m5 m6 m7 m8
  have H6 := Lib.hid (five_below H5.out hB)
  have HB6 := Lib.hid (HBW.out.trans (hB.mono HBW.out.size))
  clear hB H5 HBW
  have H5 := Lib.hid H6.out
  have HBW := Lib.hid HB6.out
  clear H6 HB6
  rw [meet_right ma mb]
  obtain ⟨fa, fb, fc, fj, fm⟩ := id H5.out
  obtain ⟨a0, a1, a2, a3, a4, a5, a6, a7, a8⟩ := fa.cells
  obtain ⟨b0, b1, b2, b3, b4, b5, b6, b7, b8⟩ := fb.cells
  obtain ⟨c0, c1, c2, c3, c4, c5, c6, c7, c8⟩ := fc.cells
  obtain ⟨j0, j1, j2, j3, j4, j5, j6, j7, j8⟩ := fj.cells
  obtain ⟨m0, m1, m2, m3, m4, m5, m6, m7, m8⟩ := fm.cells
  clear fa fb fc fj fm
  go_wp2_with fail
  refine (covers_any (c) (a) _).mono ?_
  rintro e w9 ⟨rfl, hB⟩
  clear a0 a1 a2 a3 a4 a5 a6 a7 a8 b0 b1 b2 b3 b4 b5 b6 b7 b8 c0 c1 c2 c3 c4 c5 c6 c7 c8 j0 j1 j2 j3 j4 j5 j6 j7 j8 m0 m1 m2 m3 m4 m5 m6 m7 m8
  have H6 := Lib.hid (five_below H5.out hB)
  have HB6 := Lib.hid (HBW.out.trans (hB.mono HBW.out.size))
  clear hB H5 HBW
  have H5 := Lib.hid H6.out
  have HBW := Lib.hid HB6.out
  clear H6 HB6
  cases hca : coversB c a with
  | false =>
    obtain ⟨fa, fb, fc, fj, fm⟩ := id H5.out
    obtain ⟨a0, a1, a2, a3, a4, a5, a6, a7, a8⟩ := fa.cells
    obtain ⟨b0, b1, b2, b3, b4, b5, b6, b7, b8⟩ := fb.cells
    obtain ⟨c0, c1, c2, c3, c4, c5, c6, c7, c8⟩ := fc.cells
    obtain ⟨j0, j1, j2, j3, j4, j5, j6, j7, j8⟩ := fj.cells
    obtain ⟨m0, m1, m2, m3, m4, m5, m6, m7, m8⟩ := fm.cells
    clear fa fb fc fj fm
    go_wp2_with fail
    refine (covers_any (a) (c) _).mono ?_
    rintro e w9 ⟨rfl, hB⟩
    clear a0 a1 a2 a3 a4 a5 a6 a7 a8 b0 b1 b2 b3 b4 b5 b6 b7 b8 c0 c1 c2 c3 c4 c5 c6 c7 c8 j0 j1 j2 j3 j4 j5 j6 j7 j8 m0 m1 m2 m3 m4 m5 m6 m7 m8
    have H6 := Lib.hid (five_below H5.out hB)
    have HB6 := Lib.hid (HBW.out.trans (hB.mono HBW.out.size))
    clear hB H5 HBW
    have H5 := Lib.hid H6.out
    have HBW := Lib.hid HB6.out
    clear H6 HB6
    cases hac : coversB a c with
    | false =>
      obtain ⟨fa, fb, fc, fj, fm⟩ := id H5.out
      obtain ⟨a0, a1, a2, a3, a4, a5, a6, a7, a8⟩ := fa.cells
      obtain ⟨b0, b1, b2, b3, b4, b5, b6, b7, b8⟩ := fb.cells
      obtain ⟨c0, c1, c2, c3, c4, c5, c6, c7, c8⟩ := fc.cells
      obtain ⟨j0, j1, j2, j3, j4, j5, j6, j7, j8⟩ := fj.cells
      obtain ⟨m0, m1, m2, m3, m4, m5, m6, m7, m8⟩ := fm.cells
      clear fa fb fc fj fm
      go_wp2_with fail
      have hbo := covers_both ra rb ma mb
      have hse := covers_self ma
      have hq := run_eql_vec a b
      have cs := fun W => covers_any a a W
      simp only [hse] at cs
      have la9 := H5.out.1.lt
      have lb9 := H5.out.2.1.lt
      have hna := fun (n : Near w9.heap.size w9) (k : Nat) => near_cell w9.heap.size n w.heap.size k la9
      have hnb := fun (n : Near w9.heap.size w9) (k : Nat) => near_cell w9.heap.size n (w.heap.size + 1) k lb9
      have c1 := fun W => covers_any a b W
      have c2 := fun W => covers_any b a W
      clear hse
      cases hab : coversB a b with
      | false =>
        have hs : a.same b = false := by rw [← hbo, hab]; rfl
        simp only [hs] at hq
        simp only [hab] at c1
        clear hs hab hbo c2
        refine wp_region_dep w9.heap.size 18 (by kernel_rfl) (by kernel_rfl) (by rfl) (Nat.le_refl _) ?_
        simp only [List.take_succ_cons, List.take_zero, List.drop_succ_cons, List.drop_zero]
        iterate 2 (refine wpDep_plain (by rfl) (fun K hK => ?_); go_simp; (refine hK _ ?_; clear hK K))
        refine wpDep_plain (by rfl) (fun K hK => ?_); go_simp; refine ⟨_, fun n => callsTo_of (c1 _), ?_⟩; (refine hK _ ?_; clear hK K)
        iterate 12 (refine wpDep_plain (by rfl) (fun K hK => ?_); go_simp; (refine hK _ ?_; clear hK K))
        refine wpDep_plain (by rfl) (fun K hK => ?_); go_simp; refine ⟨_, fun n => callsTo_of (cs _), ?_⟩; (refine hK _ ?_; clear hK K)
        iterate 2 (refine wpDep_plain (by rfl) (fun K hK => ?_); go_simp; (refine hK _ ?_; clear hK K))
        refine wpDep_nil ?_
        intro f m _
        simp only [fillV]
        clear hna hnb
        go_wp2
        exact ⟨rfl, _, results_tmp rfl _ _ _, rfl, HBW.out.trans (m.h.mono HBW.out.size)⟩
      | true =>
        have hs : coversB b a = a.same b := by rw [← hbo, hab]; rfl
        simp only [hab] at c1
        simp only [hs] at c2
        clear hs hab hbo
        cases hs : a.same b with
        | false =>
          simp only [hs] at hq c2
          clear hs
          refine wp_region_dep w9.heap.size 18 (by kernel_rfl) (by kernel_rfl) (by rfl) (Nat.le_refl _) ?_
          simp only [List.take_succ_cons, List.take_zero, List.drop_succ_cons, List.drop_zero]
          iterate 2 (refine wpDep_plain (by rfl) (fun K hK => ?_); go_simp; (refine hK _ ?_; clear hK K))
          refine wpDep_plain (by rfl) (fun K hK => ?_); go_simp; refine ⟨_, fun n => callsTo_of (c1 _), ?_⟩; (refine hK _ ?_; clear hK K)
          iterate 3 (refine wpDep_plain (by rfl) (fun K hK => ?_); go_simp; (refine hK _ ?_; clear hK K))
          refine wpDep_plain (by rfl) (fun K hK => ?_); go_simp; refine ⟨_, fun n => callsTo_of (c2 _), ?_⟩; (refine hK _ ?_; clear hK K)
          iterate 8 (refine wpDep_plain (by rfl) (fun K hK => ?_); go_simp; (refine hK _ ?_; clear hK K))
          refine wpDep_plain (by rfl) (fun K hK => ?_); go_simp; refine ⟨_, fun n => callsTo_of (cs _), ?_⟩; (refine hK _ ?_; clear hK K)
          iterate 2 (refine wpDep_plain (by rfl) (fun K hK => ?_); go_simp; (refine hK _ ?_; clear hK K))
          refine wpDep_nil ?_
          intro f m _
          simp only [fillV]
          clear hna hnb
          go_wp2
          exact ⟨rfl, _, results_tmp rfl _ _ _, rfl, HBW.out.trans (m.h.mono HBW.out.size)⟩
        | true =>
          simp only [hs] at hq c2
          clear hs
          refine wp_region_dep w9.heap.size 18 (by kernel_rfl) (by kernel_rfl) (by rfl) (Nat.le_refl _) ?_
          simp only [List.take_succ_cons, List.take_zero, List.drop_succ_cons, List.drop_zero]
          iterate 2 (refine wpDep_plain (by rfl) (fun K hK => ?_); go_simp; (refine hK _ ?_; clear hK K))
          refine wpDep_plain (by rfl) (fun K hK => ?_); go_simp; refine ⟨_, fun n => callsTo_of (c1 _), ?_⟩; (refine hK _ ?_; clear hK K)
          iterate 3 (refine wpDep_plain (by rfl) (fun K hK => ?_); go_simp; (refine hK _ ?_; clear hK K))
          refine wpDep_plain (by rfl) (fun K hK => ?_); go_simp; refine ⟨_, fun n => callsTo_of (c2 _), ?_⟩; (refine hK _ ?_; clear hK K)
          iterate 8 (refine wpDep_plain (by rfl) (fun K hK => ?_); go_simp; (refine hK _ ?_; clear hK K))
          refine wpDep_plain (by rfl) (fun K hK => ?_); go_simp; refine ⟨_, fun n => callsTo_of (cs _), ?_⟩; (refine hK _ ?_; clear hK K)
          iterate 2 (refine wpDep_plain (by rfl) (fun K hK => ?_); go_simp; (refine hK _ ?_; clear hK K))
          refine wpDep_nil ?_
          intro f m _
          simp only [fillV]
          clear hna hnb
          go_wp2
          exact ⟨rfl, _, results_tmp rfl _ _ _, rfl, HBW.out.trans (m.h.mono HBW.out.size)⟩
    | true =>
      obtain ⟨fa, fb, fc, fj, fm⟩ := id H5.out
      obtain ⟨a0, a1, a2, a3, a4, a5, a6, a7, a8⟩ := fa.cells
      obtain ⟨b0, b1, b2, b3, b4, b5, b6, b7, b8⟩ := fb.cells
      obtain ⟨c0, c1, c2, c3, c4, c5, c6, c7, c8⟩ := fc.cells
      obtain ⟨j0, j1, j2, j3, j4, j5, j6, j7, j8⟩ := fj.cells
      obtain ⟨m0, m1, m2, m3, m4, m5, m6, m7, m8⟩ := fm.cells
      clear fa fb fc fj fm
      go_wp2_with fail
      refine (covers_any (b) (c) _).mono ?_
      rintro e w9 ⟨rfl, hB⟩
      clear a0 a1 a2 a3 a4 a5 a6 a7 a8 b0 b1 b2 b3 b4 b5 b6 b7 b8 c0 c1 c2 c3 c4 c5 c6 c7 c8 j0 j1 j2 j3 j4 j5 j6 j7 j8 m0 m1 m2 m3 m4 m5 m6 m7 m8
      have H6 := Lib.hid (five_below H5.out hB)
      have HB6 := Lib.hid (HBW.out.trans (hB.mono HBW.out.size))
      clear hB H5 HBW
      have H5 := Lib.hid H6.out
      have HBW := Lib.hid HB6.out
      clear H6 HB6
      cases hbc : coversB b c with
      | false =>
        obtain ⟨fa, fb, fc, fj, fm⟩ := id H5.out
        obtain ⟨a0, a1, a2, a3, a4, a5, a6, a7, a8⟩ := fa.cells
        obtain ⟨b0, b1, b2, b3, b4, b5, b6, b7, b8⟩ := fb.cells
        obtain ⟨c0, c1, c2, c3, c4, c5, c6, c7, c8⟩ := fc.cells
        obtain ⟨j0, j1, j2, j3, j4, j5, j6, j7, j8⟩ := fj.cells
        obtain ⟨m0, m1, m2, m3, m4, m5, m6, m7, m8⟩ := fm.cells
        clear fa fb fc fj fm
        go_wp2_with fail
        have hbo := covers_both ra rb ma mb
        have hse := covers_self ma
        have hq := run_eql_vec a b
        have cs := fun W => covers_any a a W
        simp only [hse] at cs
        have la9 := H5.out.1.lt
        have lb9 := H5.out.2.1.lt
        have hna := fun (n : Near w9.heap.size w9) (k : Nat) => near_cell w9.heap.size n w.heap.size k la9
        have hnb := fun (n : Near w9.heap.size w9) (k : Nat) => near_cell w9.heap.size n (w.heap.size + 1) k lb9
        have c1 := fun W => covers_any a b W
        have c2 := fun W => covers_any b a W
        clear hse
        cases hab : coversB a b with
        | false =>
          have hs : a.same b = false := by rw [← hbo, hab]; rfl
          simp only [hs] at hq
          simp only [hab] at c1
          clear hs hab hbo c2
          refine wp_region_dep w9.heap.size 18 (by kernel_rfl) (by kernel_rfl) (by rfl) (Nat.le_refl _) ?_
          simp only [List.take_succ_cons, List.take_zero, List.drop_succ_cons, List.drop_zero]
          iterate 2 (refine wpDep_plain (by rfl) (fun K hK => ?_); go_simp; (refine hK _ ?_; clear hK K))
          refine wpDep_plain (by rfl) (fun K hK => ?_); go_simp; refine ⟨_, fun n => callsTo_of (c1 _), ?_⟩; (refine hK _ ?_; clear hK K)
          iterate 12 (refine wpDep_plain (by rfl) (fun K hK => ?_); go_simp; (refine hK _ ?_; clear hK K))
          refine wpDep_plain (by rfl) (fun K hK => ?_); go_simp; refine ⟨_, fun n => callsTo_of (cs _), ?_⟩; (refine hK _ ?_; clear hK K)
          iterate 2 (refine wpDep_plain (by rfl) (fun K hK => ?_); go_simp; (refine hK _ ?_; clear hK K))
          refine wpDep_nil ?_
          intro f m _
          simp only [fillV]
          clear hna hnb
          go_wp2
          exact ⟨rfl, _, results_tmp rfl _ _ _, rfl, HBW.out.trans (m.h.mono HBW.out.size)⟩
        | true =>
          have hs : coversB b a = a.same b := by rw [← hbo, hab]; rfl
          simp only [hab] at c1
          simp only [hs] at c2
          clear hs hab hbo
          cases hs : a.same b with
          | false =>
            simp only [hs] at hq c2
            clear hs
            refine wp_region_dep w9.heap.size 18 (by kernel_rfl) (by kernel_rfl) (by rfl) (Nat.le_refl _) ?_
            simp only [List.take_succ_cons, List.take_zero, List.drop_succ_cons, List.drop_zero]
            iterate 2 (refine wpDep_plain (by rfl) (fun K hK => ?_); go_simp; (refine hK _ ?_; clear hK K))
            refine wpDep_plain (by rfl) (fun K hK => ?_); go_simp; refine ⟨_, fun n => callsTo_of (c1 _), ?_⟩; (refine hK _ ?_; clear hK K)
            iterate 3 (refine wpDep_plain (by rfl) (fun K hK => ?_); go_simp; (refine hK _ ?_; clear hK K))
            refine wpDep_plain (by rfl) (fun K hK => ?_); go_simp; refine ⟨_, fun n => callsTo_of (c2 _), ?_⟩; (refine hK _ ?_; clear hK K)
            iterate 8 (refine wpDep_plain (by rfl) (fun K hK => ?_); go_simp; (refine hK _ ?_; clear hK K))
            refine wpDep_plain (by rfl) (fun K hK => ?_); go_simp; refine ⟨_, fun n => callsTo_of (cs _), ?_⟩; (refine hK _ ?_; clear hK K)
            iterate 2 (refine wpDep_plain (by rfl) (fun K hK => ?_); go_simp; (refine hK _ ?_; clear hK K))
            refine wpDep_nil ?_
            intro f m _
            simp only [fillV]
            clear hna hnb
            go_wp2
            exact ⟨rfl, _, results_tmp rfl _ _ _, rfl, HBW.out.trans (m.h.mono HBW.out.size)⟩
          | true =>
            simp only [hs] at hq c2
            clear hs
            refine wp_region_dep w9.heap.size 18 (by kernel_rfl) (by kernel_rfl) (by rfl) (Nat.le_refl _) ?_
            simp only [List.take_succ_cons, List.take_zero, List.drop_succ_cons, List.drop_zero]
            iterate 2 (refine wpDep_plain (by rfl) (fun K hK => ?_); go_simp; (refine hK _ ?_; clear hK K))
            refine wpDep_plain (by rfl) (fun K hK => ?_); go_simp; refine ⟨_, fun n => callsTo_of (c1 _), ?_⟩; (refine hK _ ?_; clear hK K)
            iterate 3 (refine wpDep_plain (by rfl) (fun K hK => ?_); go_simp; (refine hK _ ?_; clear hK K))
            refine wpDep_plain (by rfl) (fun K hK => ?_); go_simp; refine ⟨_, fun n => callsTo_of (c2 _), ?_⟩; (refine hK _ ?_; clear hK K)
            iterate 8 (refine wpDep_plain (by rfl) (fun K hK => ?_); go_simp; (refine hK _ ?_; clear hK K))
            refine wpDep_plain (by rfl) (fun K hK => ?_); go_simp; refine ⟨_, fun n => callsTo_of (cs _), ?_⟩; (refine hK _ ?_; clear hK K)
            iterate 2 (refine wpDep_plain (by rfl) (fun K hK => ?_); go_simp; (refine hK _ ?_; clear hK K))
            refine wpDep_nil ?_
            intro f m _
            simp only [fillV]
            clear hna hnb
            go_wp2
            exact ⟨rfl, _, results_tmp rfl _ _ _, rfl, HBW.out.trans (m.h.mono HBW.out.size)⟩
      | true =>
        obtain ⟨fa, fb, fc, fj, fm⟩ := id H5.out
        obtain ⟨a0, a1, a2, a3, a4, a5, a6, a7, a8⟩ := fa.cells
        obtain ⟨b0, b1, b2, b3, b4, b5, b6, b7, b8⟩ := fb.cells
        obtain ⟨c0, c1, c2, c3, c4, c5, c6, c7, c8⟩ := fc.cells
        obtain ⟨j0, j1, j2, j3, j4, j5, j6, j7, j8⟩ := fj.cells
        obtain ⟨m0, m1, m2, m3, m4, m5, m6, m7, m8⟩ := fm.cells
        clear fa fb fc fj fm
        go_wp2_with fail
        refine (covers_any (meetV a b) (c) _).mono ?_
        rintro e w9 ⟨rfl, hB⟩
        clear a0 a1 a2 a3 a4 a5 a6 a7 a8 b0 b1 b2 b3 b4 b5 b6 b7 b8 c0 c1 c2 c3 c4 c5 c6 c7 c8 j0 j1 j2 j3 j4 j5 j6 j7 j8 m0 m1 m2 m3 m4 m5 m6 m7 m8
        have H6 := Lib.hid (five_below H5.out hB)
        have HB6 := Lib.hid (HBW.out.trans (hB.mono HBW.out.size))
        clear hB H5 HBW
        have H5 := Lib.hid H6.out
        have HBW := Lib.hid HB6.out
        clear H6 HB6
        rw [meet_most ma mb hac hbc]
        obtain ⟨fa, fb, fc, fj, fm⟩ := id H5.out
        obtain ⟨a0, a1, a2, a3, a4, a5, a6, a7, a8⟩ := fa.cells
        obtain ⟨b0, b1, b2, b3, b4, b5, b6, b7, b8⟩ := fb.cells
        obtain ⟨c0, c1, c2, c3, c4, c5, c6, c7, c8⟩ := fc.cells
        obtain ⟨j0, j1, j2, j3, j4, j5, j6, j7, j8⟩ := fj.cells
        obtain ⟨m0, m1, m2, m3, m4, m5, m6, m7, m8⟩ := fm.cells
        clear fa fb fc fj fm
        go_wp2_with fail
        have hbo := covers_both ra rb ma mb
        have hse := covers_self ma
        have hq := run_eql_vec a b
        have cs := fun W => covers_any a a W
        simp only [hse] at cs
        have la9 := H5.out.1.lt
        have lb9 := H5.out.2.1.lt
        have hna := fun (n : Near w9.heap.size w9) (k : Nat) => near_cell w9.heap.size n w.heap.size k la9
        have hnb := fun (n : Near w9.heap.size w9) (k : Nat) => near_cell w9.heap.size n (w.heap.size + 1) k lb9
        have c1 := fun W => covers_any a b W
        have c2 := fun W => covers_any b a W
        clear hse
        cases hab : coversB a b with
        | false =>
          have hs : a.same b = false := by rw [← hbo, hab]; rfl
          simp only [hs] at hq
          simp only [hab] at c1
          clear hs hab hbo c2
          refine wp_region_dep w9.heap.size 18 (by kernel_rfl) (by kernel_rfl) (by rfl) (Nat.le_refl _) ?_
          simp only [List.take_succ_cons, List.take_zero, List.drop_succ_cons, List.drop_zero]
          iterate 2 (refine wpDep_plain (by rfl) (fun K hK => ?_); go_simp; (refine hK _ ?_; clear hK K))
          refine wpDep_plain (by rfl) (fun K hK => ?_); go_simp; refine ⟨_, fun n => callsTo_of (c1 _), ?_⟩; (refine hK _ ?_; clear hK K)
          iterate 12 (refine wpDep_plain (by rfl) (fun K hK => ?_); go_simp; (refine hK _ ?_; clear hK K))
          refine wpDep_plain (by rfl) (fun K hK => ?_); go_simp; refine ⟨_, fun n => callsTo_of (cs _), ?_⟩; (refine hK _ ?_; clear hK K)
          iterate 2 (refine wpDep_plain (by rfl) (fun K hK => ?_); go_simp; (refine hK _ ?_; clear hK K))
          refine wpDep_nil ?_
          intro f m _
          simp only [fillV]
          clear hna hnb
          go_wp2
          exact ⟨rfl, _, results_tmp rfl _ _ _, rfl, HBW.out.trans (m.h.mono HBW.out.size)⟩
        | true =>
          have hs : coversB b a = a.same b := by rw [← hbo, hab]; rfl
          simp only [hab] at c1
          simp only [hs] at c2
          clear hs hab hbo
          cases hs : a.same b with
          | false =>
            simp only [hs] at hq c2
            clear hs
            refine wp_region_dep w9.heap.size 18 (by kernel_rfl) (by kernel_rfl) (by rfl) (Nat.le_refl _) ?_
            simp only [List.take_succ_cons, List.take_zero, List.drop_succ_cons, List.drop_zero]
            iterate 2 (refine wpDep_plain (by rfl) (fun K hK => ?_); go_simp; (refine hK _ ?_; clear hK K))
            refine wpDep_plain (by rfl) (fun K hK => ?_); go_simp; refine ⟨_, fun n => callsTo_of (c1 _), ?_⟩; (refine hK _ ?_; clear hK K)
            iterate 3 (refine wpDep_plain (by rfl) (fun K hK => ?_); go_simp; (refine hK _ ?_; clear hK K))
            refine wpDep_plain (by rfl) (fun K hK => ?_); go_simp; refine ⟨_, fun n => callsTo_of (c2 _), ?_⟩; (refine hK _ ?_; clear hK K)
            iterate 8 (refine wpDep_plain (by rfl) (fun K hK => ?_); go_simp; (refine hK _ ?_; clear hK K))
            refine wpDep_plain (by rfl) (fun K hK => ?_); go_simp; refine ⟨_, fun n => callsTo_of (cs _), ?_⟩; (refine hK _ ?_; clear hK K)
            iterate 2 (refine wpDep_plain (by rfl) (fun K hK => ?_); go_simp; (refine hK _ ?_; clear hK K))
            refine wpDep_nil ?_
            intro f m _
            simp only [fillV]
            clear hna hnb
            go_wp2
            exact ⟨rfl, _, results_tmp rfl _ _ _, rfl, HBW.out.trans (m.h.mono HBW.out.size)⟩
          | true =>
            simp only [hs] at hq c2
            clear hs
            refine wp_region_dep w9.heap.size 18 (by kernel_rfl) (by kernel_rfl) (by rfl) (Nat.le_refl _) ?_
            simp only [List.take_succ_cons, List.take_zero, List.drop_succ_cons, List.drop_zero]
            iterate 2 (refine wpDep_plain (by rfl) (fun K hK => ?_); go_simp; (refine hK _ ?_; clear hK K))
            refine wpDep_plain (by rfl) (fun K hK => ?_); go_simp; refine ⟨_, fun n => callsTo_of (c1 _), ?_⟩; (refine hK _ ?_; clear hK K)
            iterate 3 (refine wpDep_plain (by rfl) (fun K hK => ?_); go_simp; (refine hK _ ?_; clear hK K))
            refine wpDep_plain (by rfl) (fun K hK => ?_); go_simp; refine ⟨_, fun n => callsTo_of (c2 _), ?_⟩; (refine hK _ ?_; clear hK K)
            iterate 8 (refine wpDep_plain (by rfl) (fun K hK => ?_); go_simp; (refine hK _ ?_; clear hK K))
            refine wpDep_plain (by rfl) (fun K hK => ?_); go_simp; refine ⟨_, fun n => callsTo_of (cs _), ?_⟩; (refine hK _ ?_; clear hK K)
            iterate 2 (refine wpDep_plain (by rfl) (fun K hK => ?_); go_simp; (refine hK _ ?_; clear hK K))
            refine wpDep_nil ?_
            intro f m _
            simp only [fillV]
            clear hna hnb
            go_wp2
            exact ⟨rfl, _, results_tmp rfl _ _ _, rfl, HBW.out.trans (m.h.mono HBW.out.size)⟩
  | true =>
    obtain ⟨fa, fb, fc, fj, fm⟩ := id H5.out
    obtain ⟨a0, a1, a2, a3, a4, a5, a6, a7, a8⟩ := fa.cells
    obtain ⟨b0, b1, b2, b3, b4, b5, b6, b7, b8⟩ := fb.cells
    obtain ⟨c0, c1, c2, c3, c4, c5, c6, c7, c8⟩ := fc.cells
    obtain ⟨j0, j1, j2, j3, j4, j5, j6, j7, j8⟩ := fj.cells
    obtain ⟨m0, m1, m2, m3, m4, m5, m6, m7, m8⟩ := fm.cells
    clear fa fb fc fj fm
    go_wp2_with fail
    refine (covers_any (c) (b) _).mono ?_
    rintro e w9 ⟨rfl, hB⟩
    clear a0 a1 a2 a3 a4 a5 a6 a7 a8 b0 b1 b2 b3 b4 b5 b6 b7 b8 c0 c1 c2 c3 c4 c5 c6 c7 c8 j0 j1 j2 j3 j4 j5 j6 j7 j8 m0 m1 m2 m3 m4 m5 m6 m7 m8
    have H6 := Lib.hid (five_below H5.out hB)
    have HB6 := Lib.hid (HBW.out.trans (hB.mono HBW.out.size))
    clear hB H5 HBW
    have H5 := Lib.hid H6.out
    have HBW := Lib.hid HB6.out
    clear H6 HB6
    cases hcb : coversB c b with
    | false =>
      obtain ⟨fa, fb, fc, fj, fm⟩ := id H5.out
      obtain ⟨a0, a1, a2, a3, a4, a5, a6, a7, a8⟩ := fa.cells
      obtain ⟨b0, b1, b2, b3, b4, b5, b6, b7, b8⟩ := fb.cells
      obtain ⟨c0, c1, c2, c3, c4, c5, c6, c7, c8⟩ := fc.cells
      obtain ⟨j0, j1, j2, j3, j4, j5, j6, j7, j8⟩ := fj.cells
      obtain ⟨m0, m1, m2, m3, m4, m5, m6, m7, m8⟩ := fm.cells
      clear fa fb fc fj fm
      go_wp2_with fail
      refine (covers_any (a) (c) _).mono ?_
      rintro e w9 ⟨rfl, hB⟩
      clear a0 a1 a2 a3 a4 a5 a6 a7 a8 b0 b1 b2 b3 b4 b5 b6 b7 b8 c0 c1 c2 c3 c4 c5 c6 c7 c8 j0 j1 j2 j3 j4 j5 j6 j7 j8 m0 m1 m2 m3 m4 m5 m6 m7 m8
      have H6 := Lib.hid (five_below H5.out hB)
      have HB6 := Lib.hid (HBW.out.trans (hB.mono HBW.out.size))
      clear hB H5 HBW
      have H5 := Lib.hid H6.out
      have HBW := Lib.hid HB6.out
      clear H6 HB6
      cases hac : coversB a c with
      | false =>
        obtain ⟨fa, fb, fc, fj, fm⟩ := id H5.out
        obtain ⟨a0, a1, a2, a3, a4, a5, a6, a7, a8⟩ := fa.cells
        obtain ⟨b0, b1, b2, b3, b4, b5, b6, b7, b8⟩ := fb.cells
        obtain ⟨c0, c1, c2, c3, c4, c5, c6, c7, c8⟩ := fc.cells
        obtain ⟨j0, j1, j2, j3, j4, j5, j6, j7, j8⟩ := fj.cells
        obtain ⟨m0, m1, m2, m3, m4, m5, m6, m7, m8⟩ := fm.cells
        clear fa fb fc fj fm
        go_wp2_with fail
        have hbo := covers_both ra rb ma mb
        have hse := covers_self ma
        have hq := run_eql_vec a b
        have cs := fun W => covers_any a a W
        simp only [hse] at cs
        have la9 := H5.out.1.lt
        have lb9 := H5.out.2.1.lt
        have hna := fun (n : Near w9.heap.size w9) (k : Nat) => near_cell w9.heap.size n w.heap.size k la9
        have hnb := fun (n : Near w9.heap.size w9) (k : Nat) => near_cell w9.heap.size n (w.heap.size + 1) k lb9
        have c1 := fun W => covers_any a b W
        have c2 := fun W => covers_any b a W
        clear hse
        cases hab : coversB a b with
        | false =>
          have hs : a.same b = false := by rw [← hbo, hab]; rfl
          simp only [hs] at hq
          simp only [hab] at c1
          clear hs hab hbo c2
          refine wp_region_dep w9.heap.size 18 (by kernel_rfl) (by kernel_rfl) (by rfl) (Nat.le_refl _) ?_
          simp only [List.take_succ_cons, List.take_zero, List.drop_succ_cons, List.drop_zero]
          iterate 2 (refine wpDep_plain (by rfl) (fun K hK => ?_); go_simp; (refine hK _ ?_; clear hK K))
          refine wpDep_plain (by rfl) (fun K hK => ?_); go_simp; refine ⟨_, fun n => callsTo_of (c1 _), ?_⟩; (refine hK _ ?_; clear hK K)
          iterate 12 (refine wpDep_plain (by rfl) (fun K hK => ?_); go_simp; (refine hK _ ?_; clear hK K))
          refine wpDep_plain (by rfl) (fun K hK => ?_); go_simp; refine ⟨_, fun n => callsTo_of (cs _), ?_⟩; (refine hK _ ?_; clear hK K)
          iterate 2 (refine wpDep_plain (by rfl) (fun K hK => ?_); go_simp; (refine hK _ ?_; clear hK K))
          refine wpDep_nil ?_
          intro f m _
          simp only [fillV]
          clear hna hnb
          go_wp2
          exact ⟨rfl, _, results_tmp rfl _ _ _, rfl, HBW.out.trans (m.h.mono HBW.out.size)⟩
        | true =>
          have hs : coversB b a = a.same b := by rw [← hbo, hab]; rfl
          simp only [hab] at c1
          simp only [hs] at c2
          clear hs hab hbo
          cases hs : a.same b with
          | false =>
            simp only [hs] at hq c2
            clear hs
            refine wp_region_dep w9.heap.size 18 (by kernel_rfl) (by kernel_rfl) (by rfl) (Nat.le_refl _) ?_
            simp only [List.take_succ_cons, List.take_zero, List.drop_succ_cons, List.drop_zero]
            iterate 2 (refine wpDep_plain (by rfl) (fun K hK => ?_); go_simp; (refine hK _ ?_; clear hK K))
            refine wpDep_plain (by rfl) (fun K hK => ?_); go_simp; refine ⟨_, fun n => callsTo_of (c1 _), ?_⟩; (refine hK _ ?_; clear hK K)
            iterate 3 (refine wpDep_plain (by rfl) (fun K hK => ?_); go_simp; (refine hK _ ?_; clear hK K))
            refine wpDep_plain (by rfl) (fun K hK => ?_); go_simp; refine ⟨_, fun n => callsTo_of (c2 _), ?_⟩; (refine hK _ ?_; clear hK K)
            iterate 8 (refine wpDep_plain (by rfl) (fun K hK => ?_); go_simp; (refine hK _ ?_; clear hK K))
            refine wpDep_plain (by rfl) (fun K hK => ?_); go_simp; refine ⟨_, fun n => callsTo_of (cs _), ?_⟩; (refine hK _ ?_; clear hK K)
            iterate 2 (refine wpDep_plain (by rfl) (fun K hK => ?_); go_simp; (refine hK _ ?_; clear hK K))
            refine wpDep_nil ?_
            intro f m _
            simp only [fillV]
            clear hna hnb
            go_wp2
            exact ⟨rfl, _, results_tmp rfl _ _ _, rfl, HBW.out.trans (m.h.mono HBW.out.size)⟩
          | true =>
            simp only [hs] at hq c2
            clear hs
            refine wp_region_dep w9.heap.size 18 (by kernel_rfl) (by kernel_rfl) (by rfl) (Nat.le_refl _) ?_
            simp only [List.take_succ_cons, List.take_zero, List.drop_succ_cons, List.drop_zero]
            iterate 2 (refine wpDep_plain (by rfl) (fun K hK => ?_); go_simp; (refine hK _ ?_; clear hK K))
            refine wpDep_plain (by rfl) (fun K hK => ?_); go_simp; refine ⟨_, fun n => callsTo_of (c1 _), ?_⟩; (refine hK _ ?_; clear hK K)
            iterate 3 (refine wpDep_plain (by rfl) (fun K hK => ?_); go_simp; (refine hK _ ?_; clear hK K))
            refine wpDep_plain (by rfl) (fun K hK => ?_); go_simp; refine ⟨_, fun n => callsTo_of (c2 _), ?_⟩; (refine hK _ ?_; clear hK K)
            iterate 8 (refine wpDep_plain (by rfl) (fun K hK => ?_); go_simp; (refine hK _ ?_; clear hK K))
            refine wpDep_plain (by rfl) (fun K hK => ?_); go_simp; refine ⟨_, fun n => callsTo_of (cs _), ?_⟩; (refine hK _ ?_; clear hK K)
            iterate 2 (refine wpDep_plain (by rfl) (fun K hK => ?_); go_simp; (refine hK _ ?_; clear hK K))
            refine wpDep_nil ?_
            intro f m _
            simp only [fillV]
            clear hna hnb
            go_wp2
            exact ⟨rfl, _, results_tmp rfl _ _ _, rfl, HBW.out.trans (m.h.mono HBW.out.size)⟩
      | true =>
        obtain ⟨fa, fb, fc, fj, fm⟩ := id H5.out
        obtain ⟨a0, a1, a2, a3, a4, a5, a6, a7, a8⟩ := fa.cells
        obtain ⟨b0, b1, b2, b3, b4, b5, b6, b7, b8⟩ := fb.cells
        obtain ⟨c0, c1, c2, c3, c4, c5, c6, c7, c8⟩ := fc.cells
        obtain ⟨j0, j1, j2, j3, j4, j5, j6, j7, j8⟩ := fj.cells
        obtain ⟨m0, m1, m2, m3, m4, m5, m6, m7, m8⟩ := fm.cells
        clear fa fb fc fj fm
        go_wp2_with fail
        refine (covers_any (b) (c) _).mono ?_
        rintro e w9 ⟨rfl, hB⟩
        clear a0 a1 a2 a3 a4 a5 a6 a7 a8 b0 b1 b2 b3 b4 b5 b6 b7 b8 c0 c1 c2 c3 c4 c5 c6 c7 c8 j0 j1 j2 j3 j4 j5 j6 j7 j8 m0 m1 m2 m3 m4 m5 m6 m7 m8
        have H6 := Lib.hid (five_below H5.out hB)
        have HB6 := Lib.hid (HBW.out.trans (hB.mono HBW.out.size))
        clear hB H5 HBW
        have H5 := Lib.hid H6.out
        have HBW := Lib.hid HB6.out
        clear H6 HB6
        cases hbc : coversB b c with
        | false =>
          obtain ⟨fa, fb, fc, fj, fm⟩ := id H5.out
          obtain ⟨a0, a1, a2, a3, a4, a5, a6, a7, a8⟩ := fa.cells
          obtain ⟨b0, b1, b2, b3, b4, b5, b6, b7, b8⟩ := fb.cells
          obtain ⟨c0, c1, c2, c3, c4, c5, c6, c7, c8⟩ := fc.cells
          obtain ⟨j0, j1, j2, j3, j4, j5, j6, j7, j8⟩ := fj.cells
          obtain ⟨m0, m1, m2, m3, m4, m5, m6, m7, m8⟩ := fm.cells
          clear fa fb fc fj fm
          go_wp2_with fail
          have hbo := covers_both ra rb ma mb
          have hse := covers_self ma
          have hq := run_eql_vec a b
          have cs := fun W => covers_any a a W
          simp only [hse] at cs
          have la9 := H5.out.1.lt
          have lb9 := H5.out.2.1.lt
          have hna := fun (n : Near w9.heap.size w9) (k : Nat) => near_cell w9.heap.size n w.heap.size k la9
          have hnb := fun (n : Near w9.heap.size w9) (k : Nat) => near_cell w9.heap.size n (w.heap.size + 1) k lb9
          have c1 := fun W => covers_any a b W
          have c2 := fun W => covers_any b a W
          clear hse
          cases hab : coversB a b with
          | false =>
            have hs : a.same b = false := by rw [← hbo, hab]; rfl
            simp only [hs] at hq
            simp only [hab] at c1
            clear hs hab hbo c2
            refine wp_region_dep w9.heap.size 18 (by kernel_rfl) (by kernel_rfl) (by rfl) (Nat.le_refl _) ?_
            simp only [List.take_succ_cons, List.take_zero, List.drop_succ_cons, List.drop_zero]
            iterate 2 (refine wpDep_plain (by rfl) (fun K hK => ?_); go_simp; (refine hK _ ?_; clear hK K))
            refine wpDep_plain (by rfl) (fun K hK => ?_); go_simp; refine ⟨_, fun n => callsTo_of (c1 _), ?_⟩; (refine hK _ ?_; clear hK K)
            iterate 12 (refine wpDep_plain (by rfl) (fun K hK => ?_); go_simp; (refine hK _ ?_; clear hK K))
            refine wpDep_plain (by rfl) (fun K hK => ?_); go_simp; refine ⟨_, fun n => callsTo_of (cs _), ?_⟩; (refine hK _ ?_; clear hK K)
            iterate 2 (refine wpDep_plain (by rfl) (fun K hK => ?_); go_simp; (refine hK _ ?_; clear hK K))
            refine wpDep_nil ?_
            intro f m _
            simp only [fillV]
            clear hna hnb
            go_wp2
            exact ⟨rfl, _, results_tmp rfl _ _ _, rfl, HBW.out.trans (m.h.mono HBW.out.size)⟩
          | true =>
            have hs : coversB b a = a.same b := by rw [← hbo, hab]; rfl
            simp only [hab] at c1
            simp only [hs] at c2
            clear hs hab hbo
            cases hs : a.same b with
            | false =>
              simp only [hs] at hq c2
              clear hs
              refine wp_region_dep w9.heap.size 18 (by kernel_rfl) (by kernel_rfl) (by rfl) (Nat.le_refl _) ?_
              simp only [List.take_succ_cons, List.take_zero, List.drop_succ_cons, List.drop_zero]
              iterate 2 (refine wpDep_plain (by rfl) (fun K hK => ?_); go_simp; (refine hK _ ?_; clear hK K))
              refine wpDep_plain (by rfl) (fun K hK => ?_); go_simp; refine ⟨_, fun n => callsTo_of (c1 _), ?_⟩; (refine hK _ ?_; clear hK K)
              iterate 3 (refine wpDep_plain (by rfl) (fun K hK => ?_); go_simp; (refine hK _ ?_; clear hK K))
              refine wpDep_plain (by rfl) (fun K hK => ?_); go_simp; refine ⟨_, fun n => callsTo_of (c2 _), ?_⟩; (refine hK _ ?_; clear hK K)
              iterate 8 (refine wpDep_plain (by rfl) (fun K hK => ?_); go_simp; (refine hK _ ?_; clear hK K))
              refine wpDep_plain (by rfl) (fun K hK => ?_); go_simp; refine ⟨_, fun n => callsTo_of (cs _), ?_⟩; (refine hK _ ?_; clear hK K)
              iterate 2 (refine wpDep_plain (by rfl) (fun K hK => ?_); go_simp; (refine hK _ ?_; clear hK K))
              refine wpDep_nil ?_
              intro f m _
              simp only [fillV]
              clear hna hnb
              go_wp2
              exact ⟨rfl, _, results_tmp rfl _ _ _, rfl, HBW.out.trans (m.h.mono HBW.out.size)⟩
            | true =>
              simp only [hs] at hq c2
              clear hs
              refine wp_region_dep w9.heap.size 18 (by kernel_rfl) (by kernel_rfl) (by rfl) (Nat.le_refl _) ?_
              simp only [List.take_succ_cons, List.take_zero, List.drop_succ_cons, List.drop_zero]
              iterate 2 (refine wpDep_plain (by rfl) (fun K hK => ?_); go_simp; (refine hK _ ?_; clear hK K))
              refine wpDep_plain (by rfl) (fun K hK => ?_); go_simp; refine ⟨_, fun n => callsTo_of (c1 _), ?_⟩; (refine hK _ ?_; clear hK K)
              iterate 3 (refine wpDep_plain (by rfl) (fun K hK => ?_); go_simp; (refine hK _ ?_; clear hK K))
              refine wpDep_plain (by rfl) (fun K hK => ?_); go_simp; refine ⟨_, fun n => callsTo_of (c2 _), ?_⟩; (refine hK _ ?_; clear hK K)
              iterate 8 (refine wpDep_plain (by rfl) (fun K hK => ?_); go_simp; (refine hK _ ?_; clear hK K))
              refine wpDep_plain (by rfl) (fun K hK => ?_); go_simp; refine ⟨_, fun n => callsTo_of (cs _), ?_⟩; (refine hK _ ?_; clear hK K)
              iterate 2 (refine wpDep_plain (by rfl) (fun K hK => ?_); go_simp; (refine hK _ ?_; clear hK K))
              refine wpDep_nil ?_
              intro f m _
              simp only [fillV]
              clear hna hnb
              go_wp2
              exact ⟨rfl, _, results_tmp rfl _ _ _, rfl, HBW.out.trans (m.h.mono HBW.out.size)⟩
        | true =>
          obtain ⟨fa, fb, fc, fj, fm⟩ := id H5.out
          obtain ⟨a0, a1, a2, a3, a4, a5, a6, a7, a8⟩ := fa.cells
          obtain ⟨b0, b1, b2, b3, b4, b5, b6, b7, b8⟩ := fb.cells
          obtain ⟨c0, c1, c2, c3, c4, c5, c6, c7, c8⟩ := fc.cells
          obtain ⟨j0, j1, j2, j3, j4, j5, j6, j7, j8⟩ := fj.cells
          obtain ⟨m0, m1, m2, m3, m4, m5, m6, m7, m8⟩ := fm.cells
          clear fa fb fc fj fm
          go_wp2_with fail
          refine (covers_any (meetV a b) (c) _).mono ?_
          rintro e w9 ⟨rfl, hB⟩
          clear a0 a1 a2 a3 a4 a5 a6 a7 a8 b0 b1 b2 b3 b4 b5 b6 b7 b8 c0 c1 c2 c3 c4 c5 c6 c7 c8 j0 j1 j2 j3 j4 j5 j6 j7 j8 m0 m1 m2 m3 m4 m5 m6 m7 m8
          have H6 := Lib.hid (five_below H5.out hB)
          have HB6 := Lib.hid (HBW.out.trans (hB.mono HBW.out.size))
          clear hB H5 HBW
          have H5 := Lib.hid H6.out
          have HBW := Lib.hid HB6.out
          clear H6 HB6
          rw [meet_most ma mb hac hbc]
          obtain ⟨fa, fb, fc, fj, fm⟩ := id H5.out
          obtain ⟨a0, a1, a2, a3, a4, a5, a6, a7, a8⟩ := fa.cells
          obtain ⟨b0, b1, b2, b3, b4, b5, b6, b7, b8⟩ := fb.cells
          obtain ⟨c0, c1, c2, c3, c4, c5, c6, c7, c8⟩ := fc.cells
          obtain ⟨j0, j1, j2, j3, j4, j5, j6, j7, j8⟩ := fj.cells
          obtain ⟨m0, m1, m2, m3, m4, m5, m6, m7, m8⟩ := fm.cells
          clear fa fb fc fj fm
          go_wp2_with fail
          have hbo := covers_both ra rb ma mb
          have hse := covers_self ma
          have hq := run_eql_vec a b
          have cs := fun W => covers_any a a W
          simp only [hse] at cs
          have la9 := H5.out.1.lt
          have lb9 := H5.out.2.1.lt
          have hna := fun (n : Near w9.heap.size w9) (k : Nat) => near_cell w9.heap.size n w.heap.size k la9
          have hnb := fun (n : Near w9.heap.size w9) (k : Nat) => near_cell w9.heap.size n (w.heap.size + 1) k lb9
          have c1 := fun W => covers_any a b W
          have c2 := fun W => covers_any b a W
          clear hse
          cases hab : coversB a b with
          | false =>
            have hs : a.same b = false := by rw [← hbo, hab]; rfl
            simp only [hs] at hq
            simp only [hab] at c1
            clear hs hab hbo c2
            refine wp_region_dep w9.heap.size 18 (by kernel_rfl) (by kernel_rfl) (by rfl) (Nat.le_refl _) ?_
            simp only [List.take_succ_cons, List.take_zero, List.drop_succ_cons, List.drop_zero]
            iterate 2 (refine wpDep_plain (by rfl) (fun K hK => ?_); go_simp; (refine hK _ ?_; clear hK K))
            refine wpDep_plain (by rfl) (fun K hK => ?_); go_simp; refine ⟨_, fun n => callsTo_of (c1 _), ?_⟩; (refine hK _ ?_; clear hK K)
            iterate 12 (refine wpDep_plain (by rfl) (fun K hK => ?_); go_simp; (refine hK _ ?_; clear hK K))
            refine wpDep_plain (by rfl) (fun K hK => ?_); go_simp; refine ⟨_, fun n => callsTo_of (cs _), ?_⟩; (refine hK _ ?_; clear hK K)
            iterate 2 (refine wpDep_plain (by rfl) (fun K hK => ?_); go_simp; (refine hK _ ?_; clear hK K))
            refine wpDep_nil ?_
            intro f m _
            simp only [fillV]
            clear hna hnb
            go_wp2
            exact ⟨rfl, _, results_tmp rfl _ _ _, rfl, HBW.out.trans (m.h.mono HBW.out.size)⟩
          | true =>
            have hs : coversB b a = a.same b := by rw [← hbo, hab]; rfl
            simp only [hab] at c1
            simp only [hs] at c2
            clear hs hab hbo
            cases hs : a.same b with
            | false =>
              simp only [hs] at hq c2
              clear hs
              refine wp_region_dep w9.heap.size 18 (by kernel_rfl) (by kernel_rfl) (by rfl) (Nat.le_refl _) ?_
              simp only [List.take_succ_cons, List.take_zero, List.drop_succ_cons, List.drop_zero]
              iterate 2 (refine wpDep_plain (by rfl) (fun K hK => ?_); go_simp; (refine hK _ ?_; clear hK K))
              refine wpDep_plain (by rfl) (fun K hK => ?_); go_simp; refine ⟨_, fun n => callsTo_of (c1 _), ?_⟩; (refine hK _ ?_; clear hK K)
              iterate 3 (refine wpDep_plain (by rfl) (fun K hK => ?_); go_simp; (refine hK _ ?_; clear hK K))
              refine wpDep_plain (by rfl) (fun K hK => ?_); go_simp; refine ⟨_, fun n => callsTo_of (c2 _), ?_⟩; (refine hK _ ?_; clear hK K)
              iterate 8 (refine wpDep_plain (by rfl) (fun K hK => ?_); go_simp; (refine hK _ ?_; clear hK K))
              refine wpDep_plain (by rfl) (fun K hK => ?_); go_simp; refine ⟨_, fun n => callsTo_of (cs _), ?_⟩; (refine hK _ ?_; clear hK K)
              iterate 2 (refine wpDep_plain (by rfl) (fun K hK => ?_); go_simp; (refine hK _ ?_; clear hK K))
              refine wpDep_nil ?_
              intro f m _
              simp only [fillV]
              clear hna hnb
              go_wp2
              exact ⟨rfl, _, results_tmp rfl _ _ _, rfl, HBW.out.trans (m.h.mono HBW.out.size)⟩
            | true =>
              simp only [hs] at hq c2
              clear hs
              refine wp_region_dep w9.heap.size 18 (by kernel_rfl) (by kernel_rfl) (by rfl) (Nat.le_refl _) ?_
              simp only [List.take_succ_cons, List.take_zero, List.drop_succ_cons, List.drop_zero]
              iterate 2 (refine wpDep_plain (by rfl) (fun K hK => ?_); go_simp; (refine hK _ ?_; clear hK K))
              refine wpDep_plain (by rfl) (fun K hK => ?_); go_simp; refine ⟨_, fun n => callsTo_of (c1 _), ?_⟩; (refine hK _ ?_; clear hK K)
              iterate 3 (refine wpDep_plain (by rfl) (fun K hK => ?_); go_simp; (refine hK _ ?_; clear hK K))
              refine wpDep_plain (by rfl) (fun K hK => ?_); go_simp; refine ⟨_, fun n => callsTo_of (c2 _), ?_⟩; (refine hK _ ?_; clear hK K)
              iterate 8 (refine wpDep_plain (by rfl) (fun K hK => ?_); go_simp; (refine hK _ ?_; clear hK K))
              refine wpDep_plain (by rfl) (fun K hK => ?_); go_simp; refine ⟨_, fun n => callsTo_of (cs _), ?_⟩; (refine hK _ ?_; clear hK K)
              iterate 2 (refine wpDep_plain (by rfl) (fun K hK => ?_); go_simp; (refine hK _ ?_; clear hK K))
              refine wpDep_nil ?_
              intro f m _
              simp only [fillV]
              clear hna hnb
              go_wp2
              exact ⟨rfl, _, results_tmp rfl _ _ _, rfl, HBW.out.trans (m.h.mono HBW.out.size)⟩
    | true =>
      obtain ⟨fa, fb, fc, fj, fm⟩ := id H5.out
      obtain ⟨a0, a1, a2, a3, a4, a5, a6, a7, a8⟩ := fa.cells
      obtain ⟨b0, b1, b2, b3, b4, b5, b6, b7, b8⟩ := fb.cells
      obtain ⟨c0, c1, c2, c3, c4, c5, c6, c7, c8⟩ := fc.cells
      obtain ⟨j0, j1, j2, j3, j4, j5, j6, j7, j8⟩ := fj.cells
      obtain ⟨m0, m1, m2, m3, m4, m5, m6, m7, m8⟩ := fm.cells
      clear fa fb fc fj fm
      go_wp2_with fail
      refine (covers_any (c) (joinV a b) _).mono ?_
      rintro e w9 ⟨rfl, hB⟩
      clear a0 a1 a2 a3 a4 a5 a6 a7 a8 b0 b1 b2 b3 b4 b5 b6 b7 b8 c0 c1 c2 c3 c4 c5 c6 c7 c8 j0 j1 j2 j3 j4 j5 j6 j7 j8 m0 m1 m2 m3 m4 m5 m6 m7 m8
      have H6 := Lib.hid (five_below H5.out hB)
      have HB6 := Lib.hid (HBW.out.trans (hB.mono HBW.out.size))
      clear hB H5 HBW
      have H5 := Lib.hid H6.out
      have HBW := Lib.hid HB6.out
      clear H6 HB6
      rw [join_least ma mb hca hcb]
      obtain ⟨fa, fb, fc, fj, fm⟩ := id H5.out
      obtain ⟨a0, a1, a2, a3, a4, a5, a6, a7, a8⟩ := fa.cells
      obtain ⟨b0, b1, b2, b3, b4, b5, b6, b7, b8⟩ := fb.cells
      obtain ⟨c0, c1, c2, c3, c4, c5, c6, c7, c8⟩ := fc.cells
      obtain ⟨j0, j1, j2, j3, j4, j5, j6, j7, j8⟩ := fj.cells
      obtain ⟨m0, m1, m2, m3, m4, m5, m6, m7, m8⟩ := fm.cells
      clear fa fb fc fj fm
      go_wp2_with fail
      refine (covers_any (a) (c) _).mono ?_
      rintro e w9 ⟨rfl, hB⟩
      clear a0 a1 a2 a3 a4 a5 a6 a7 a8 b0 b1 b2 b3 b4 b5 b6 b7 b8 c0 c1 c2 c3 c4 c5 c6 c7 c8 j0 j1 j2 j3 j4 j5 j6 j7 j8 m0 m1 m2 m3 m4 m5 m6 m7 m8
      have H6 := Lib.hid (five_below H5.out hB)
      have HB6 := Lib.hid (HBW.out.trans (hB.mono HBW.out.size))
      clear hB H5 HBW
      have H5 := Lib.hid H6.out
      have HBW := Lib.hid HB6.out
      clear H6 HB6
      cases hac : coversB a c with
      | false =>
        obtain ⟨fa, fb, fc, fj, fm⟩ := id H5.out
        obtain ⟨a0, a1, a2, a3, a4, a5, a6, a7, a8⟩ := fa.cells
        obtain ⟨b0, b1, b2, b3, b4, b5, b6, b7, b8⟩ := fb.cells
        obtain ⟨c0, c1, c2, c3, c4, c5, c6, c7, c8⟩ := fc.cells
        obtain ⟨j0, j1, j2, j3, j4, j5, j6, j7, j8⟩ := fj.cells
        obtain ⟨m0, m1, m2, m3, m4, m5, m6, m7, m8⟩ := fm.cells
        clear fa fb fc fj fm
        go_wp2_with fail
        have hbo := covers_both ra rb ma mb
        have hse := covers_self ma
        have hq := run_eql_vec a b
        have cs := fun W => covers_any a a W
        simp only [hse] at cs
        have la9 := H5.out.1.lt
        have lb9 := H5.out.2.1.lt
        have hna := fun (n : Near w9.heap.size w9) (k : Nat) => near_cell w9.heap.size n w.heap.size k la9
        have hnb := fun (n : Near w9.heap.size w9) (k : Nat) => near_cell w9.heap.size n (w.heap.size + 1) k lb9
        have c1 := fun W => covers_any a b W
        have c2 := fun W => covers_any b a W
        clear hse
        cases hab : coversB a b with
        | false =>
          have hs : a.same b = false := by rw [← hbo, hab]; rfl
          simp only [hs] at hq
          simp only [hab] at c1
          clear hs hab hbo c2
          refine wp_region_dep w9.heap.size 18 (by kernel_rfl) (by kernel_rfl) (by rfl) (Nat.le_refl _) ?_
          simp only [List.take_succ_cons, List.take_zero, List.drop_succ_cons, List.drop_zero]
          iterate 2 (refine wpDep_plain (by rfl) (fun K hK => ?_); go_simp; (refine hK _ ?_; clear hK K))
          refine wpDep_plain (by rfl) (fun K hK => ?_); go_simp; refine ⟨_, fun n => callsTo_of (c1 _), ?_⟩; (refine hK _ ?_; clear hK K)
          iterate 12 (refine wpDep_plain (by rfl) (fun K hK => ?_); go_simp; (refine hK _ ?_; clear hK K))
          refine wpDep_plain (by rfl) (fun K hK => ?_); go_simp; refine ⟨_, fun n => callsTo_of (cs _), ?_⟩; (refine hK _ ?_; clear hK K)
          iterate 2 (refine wpDep_plain (by rfl) (fun K hK => ?_); go_simp; (refine hK _ ?_; clear hK K))
          refine wpDep_nil ?_
          intro f m _
          simp only [fillV]
          clear hna hnb
          go_wp2
          exact ⟨rfl, _, results_tmp rfl _ _ _, rfl, HBW.out.trans (m.h.mono HBW.out.size)⟩
        | true =>
          have hs : coversB b a = a.same b := by rw [← hbo, hab]; rfl
          simp only [hab] at c1
          simp only [hs] at c2
          clear hs hab hbo
          cases hs : a.same b with
          | false =>
            simp only [hs] at hq c2
            clear hs
            refine wp_region_dep w9.heap.size 18 (by kernel_rfl) (by kernel_rfl) (by rfl) (Nat.le_refl _) ?_
            simp only [List.take_succ_cons, List.take_zero, List.drop_succ_cons, List.drop_zero]
            iterate 2 (refine wpDep_plain (by rfl) (fun K hK => ?_); go_simp; (refine hK _ ?_; clear hK K))
            refine wpDep_plain (by rfl) (fun K hK => ?_); go_simp; refine ⟨_, fun n => callsTo_of (c1 _), ?_⟩; (refine hK _ ?_; clear hK K)
            iterate 3 (refine wpDep_plain (by rfl) (fun K hK => ?_); go_simp; (refine hK _ ?_; clear hK K))
            refine wpDep_plain (by rfl) (fun K hK => ?_); go_simp; refine ⟨_, fun n => callsTo_of (c2 _), ?_⟩; (refine hK _ ?_; clear hK K)
            iterate 8 (refine wpDep_plain (by rfl) (fun K hK => ?_); go_simp; (refine hK _ ?_; clear hK K))
            refine wpDep_plain (by rfl) (fun K hK => ?_); go_simp; refine ⟨_, fun n => callsTo_of (cs _), ?_⟩; (refine hK _ ?_; clear hK K)
            iterate 2 (refine wpDep_plain (by rfl) (fun K hK => ?_); go_simp; (refine hK _ ?_; clear hK K))
            refine wpDep_nil ?_
            intro f m _
            simp only [fillV]
            clear hna hnb
            go_wp2
            exact ⟨rfl, _, results_tmp rfl _ _ _, rfl, HBW.out.trans (m.h.mono HBW.out.size)⟩
          | true =>
            simp only [hs] at hq c2
            clear hs
            refine wp_region_dep w9.heap.size 18 (by kernel_rfl) (by kernel_rfl) (by rfl) (Nat.le_refl _) ?_
            simp only [List.take_succ_cons, List.take_zero, List.drop_succ_cons, List.drop_zero]
            iterate 2 (refine wpDep_plain (by rfl) (fun K hK => ?_); go_simp; (refine hK _ ?_; clear hK K))
            refine wpDep_plain (by rfl) (fun K hK => ?_); go_simp; refine ⟨_, fun n => callsTo_of (c1 _), ?_⟩; (refine hK _ ?_; clear hK K)
            iterate 3 (refine wpDep_plain (by rfl) (fun K hK => ?_); go_simp; (refine hK _ ?_; clear hK K))
            refine wpDep_plain (by rfl) (fun K hK => ?_); go_simp; refine ⟨_, fun n => callsTo_of (c2 _), ?_⟩; (refine hK _ ?_; clear hK K)
            iterate 8 (refine wpDep_plain (by rfl) (fun K hK => ?_); go_simp; (refine hK _ ?_; clear hK K))
            refine wpDep_plain (by rfl) (fun K hK => ?_); go_simp; refine ⟨_, fun n => callsTo_of (cs _), ?_⟩; (refine hK _ ?_; clear hK K)
            iterate 2 (refine wpDep_plain (by rfl) (fun K hK => ?_); go_simp; (refine hK _ ?_; clear hK K))
            refine wpDep_nil ?_
            intro f m _
            simp only [fillV]
            clear hna hnb
            go_wp2
            exact ⟨rfl, _, results_tmp rfl _ _ _, rfl, HBW.out.trans (m.h.mono HBW.out.size)⟩
      | true =>
        obtain ⟨fa, fb, fc, fj, fm⟩ := id H5.out
        obtain ⟨a0, a1, a2, a3, a4, a5, a6, a7, a8⟩ := fa.cells
        obtain ⟨b0, b1, b2, b3, b4, b5, b6, b7, b8⟩ := fb.cells
        obtain ⟨c0, c1, c2, c3, c4, c5, c6, c7, c8⟩ := fc.cells
        obtain ⟨j0, j1, j2, j3, j4, j5, j6, j7, j8⟩ := fj.cells
        obtain ⟨m0, m1, m2, m3, m4, m5, m6, m7, m8⟩ := fm.cells
        clear fa fb fc fj fm
        go_wp2_with fail
        refine (covers_any (b) (c) _).mono ?_
        rintro e w9 ⟨rfl, hB⟩
        clear a0 a1 a2 a3 a4 a5 a6 a7 a8 b0 b1 b2 b3 b4 b5 b6 b7 b8 c0 c1 c2 c3 c4 c5 c6 c7 c8 j0 j1 j2 j3 j4 j5 j6 j7 j8 m0 m1 m2 m3 m4 m5 m6 m7 m8
        have H6 := Lib.hid (five_below H5.out hB)
        have HB6 := Lib.hid (HBW.out.trans (hB.mono HBW.out.size))
        clear hB H5 HBW
        have H5 := Lib.hid H6.out
        have HBW := Lib.hid HB6.out
        clear H6 HB6
        cases hbc : coversB b c with
        | false =>
          obtain ⟨fa, fb, fc, fj, fm⟩ := id H5.out
          obtain ⟨a0, a1, a2, a3, a4, a5, a6, a7, a8⟩ := fa.cells
          obtain ⟨b0, b1, b2, b3, b4, b5, b6, b7, b8⟩ := fb.cells
          obtain ⟨c0, c1, c2, c3, c4, c5, c6, c7, c8⟩ := fc.cells
          obtain ⟨j0, j1, j2, j3, j4, j5, j6, j7, j8⟩ := fj.cells
          obtain ⟨m0, m1, m2, m3, m4, m5, m6, m7, m8⟩ := fm.cells
          clear fa fb fc fj fm
          go_wp2_with fail
          have hbo := covers_both ra rb ma mb
          have hse := covers_self ma
          have hq := run_eql_vec a b
          have cs := fun W => covers_any a a W
          simp only [hse] at cs
          have la9 := H5.out.1.lt
          have lb9 := H5.out.2.1.lt
          have hna := fun (n : Near w9.heap.size w9) (k : Nat) => near_cell w9.heap.size n w.heap.size k la9
          have hnb := fun (n : Near w9.heap.size w9) (k : Nat) => near_cell w9.heap.size n (w.heap.size + 1) k lb9
          have c1 := fun W => covers_any a b W
          have c2 := fun W => covers_any b a W
          clear hse
          cases hab : coversB a b with
          | false =>
            have hs : a.same b = false := by rw [← hbo, hab]; rfl
            simp only [hs] at hq
            simp only [hab] at c1
            clear hs hab hbo c2
            refine wp_region_dep w9.heap.size 18 (by kernel_rfl) (by kernel_rfl) (by rfl) (Nat.le_refl _) ?_
            simp only [List.take_succ_cons, List.take_zero, List.drop_succ_cons, List.drop_zero]
            iterate 2 (refine wpDep_plain (by rfl) (fun K hK => ?_); go_simp; (refine hK _ ?_; clear hK K))
            refine wpDep_plain (by rfl) (fun K hK => ?_); go_simp; refine ⟨_, fun n => callsTo_of (c1 _), ?_⟩; (refine hK _ ?_; clear hK K)
            iterate 12 (refine wpDep_plain (by rfl) (fun K hK => ?_); go_simp; (refine hK _ ?_; clear hK K))
            refine wpDep_plain (by rfl) (fun K hK => ?_); go_simp; refine ⟨_, fun n => callsTo_of (cs _), ?_⟩; (refine hK _ ?_; clear hK K)
            iterate 2 (refine wpDep_plain (by rfl) (fun K hK => ?_); go_simp; (refine hK _ ?_; clear hK K))
            refine wpDep_nil ?_
            intro f m _
            simp only [fillV]
            clear hna hnb
            go_wp2
            exact ⟨rfl, _, results_tmp rfl _ _ _, rfl, HBW.out.trans (m.h.mono HBW.out.size)⟩
          | true =>
            have hs : coversB b a = a.same b := by rw [← hbo, hab]; rfl
            simp only [hab] at c1
            simp only [hs] at c2
            clear hs hab hbo
            cases hs : a.same b with
            | false =>
              simp only [hs] at hq c2
              clear hs
              refine wp_region_dep w9.heap.size 18 (by kernel_rfl) (by kernel_rfl) (by rfl) (Nat.le_refl _) ?_
              simp only [List.take_succ_cons, List.take_zero, List.drop_succ_cons, List.drop_zero]
              iterate 2 (refine wpDep_plain (by rfl) (fun K hK => ?_); go_simp; (refine hK _ ?_; clear hK K))
              refine wpDep_plain (by rfl) (fun K hK => ?_); go_simp; refine ⟨_, fun n => callsTo_of (c1 _), ?_⟩; (refine hK _ ?_; clear hK K)
              iterate 3 (refine wpDep_plain (by rfl) (fun K hK => ?_); go_simp; (refine hK _ ?_; clear hK K))
              refine wpDep_plain (by rfl) (fun K hK => ?_); go_simp; refine ⟨_, fun n => callsTo_of (c2 _), ?_⟩; (refine hK _ ?_; clear hK K)
              iterate 8 (refine wpDep_plain (by rfl) (fun K hK => ?_); go_simp; (refine hK _ ?_; clear hK K))
              refine wpDep_plain (by rfl) (fun K hK => ?_); go_simp; refine ⟨_, fun n => callsTo_of (cs _), ?_⟩; (refine hK _ ?_; clear hK K)
              iterate 2 (refine wpDep_plain (by rfl) (fun K hK => ?_); go_simp; (refine hK _ ?_; clear hK K))
              refine wpDep_nil ?_
              intro f m _
              simp only [fillV]
              clear hna hnb
              go_wp2
              exact ⟨rfl, _, results_tmp rfl _ _ _, rfl, HBW.out.trans (m.h.mono HBW.out.size)⟩
            | true =>
              simp only [hs] at hq c2
              clear hs
              refine wp_region_dep w9.heap.size 18 (by kernel_rfl) (by kernel_rfl) (by rfl) (Nat.le_refl _) ?_
              simp only [List.take_succ_cons, List.take_zero, List.drop_succ_cons, List.drop_zero]
              iterate 2 (refine wpDep_plain (by rfl) (fun K hK => ?_); go_simp; (refine hK _ ?_; clear hK K))
              refine wpDep_plain (by rfl) (fun K hK => ?_); go_simp; refine ⟨_, fun n => callsTo_of (c1 _), ?_⟩; (refine hK _ ?_; clear hK K)
              iterate 3 (refine wpDep_plain (by rfl) (fun K hK => ?_); go_simp; (refine hK _ ?_; clear hK K))
              refine wpDep_plain (by rfl) (fun K hK => ?_); go_simp; refine ⟨_, fun n => callsTo_of (c2 _), ?_⟩; (refine hK _ ?_; clear hK K)
              iterate 8 (refine wpDep_plain (by rfl) (fun K hK => ?_); go_simp; (refine hK _ ?_; clear hK K))
              refine wpDep_plain (by rfl) (fun K hK => ?_); go_simp; refine ⟨_, fun n => callsTo_of (cs _), ?_⟩; (refine hK _ ?_; clear hK K)
              iterate 2 (refine wpDep_plain (by rfl) (fun K hK => ?_); go_simp; (refine hK _ ?_; clear hK K))
              refine wpDep_nil ?_
              intro f m _
              simp only [fillV]
              clear hna hnb
              go_wp2
              exact ⟨rfl, _, results_tmp rfl _ _ _, rfl, HBW.out.trans (m.h.mono HBW.out.size)⟩
        | true =>
          obtain ⟨fa, fb, fc, fj, fm⟩ := id H5.out
          obtain ⟨a0, a1, a2, a3, a4, a5, a6, a7, a8⟩ := fa.cells
          obtain ⟨b0, b1, b2, b3, b4, b5, b6, b7, b8⟩ := fb.cells
          obtain ⟨c0, c1, c2, c3, c4, c5, c6, c7, c8⟩ := fc.cells
          obtain ⟨j0, j1, j2, j3, j4, j5, j6, j7, j8⟩ := fj.cells
          obtain ⟨m0, m1, m2, m3, m4, m5, m6, m7, m8⟩ := fm.cells
          clear fa fb fc fj fm
          go_wp2_with fail
          refine (covers_any (meetV a b) (c) _).mono ?_
          rintro e w9 ⟨rfl, hB⟩
          clear a0 a1 a2 a3 a4 a5 a6 a7 a8 b0 b1 b2 b3 b4 b5 b6 b7 b8 c0 c1 c2 c3 c4 c5 c6 c7 c8 j0 j1 j2 j3 j4 j5 j6 j7 j8 m0 m1 m2 m3 m4 m5 m6 m7 m8
          have H6 := Lib.hid (five_below H5.out hB)
          have HB6 := Lib.hid (HBW.out.trans (hB.mono HBW.out.size))
          clear hB H5 HBW
          have H5 := Lib.hid H6.out
          have HBW := Lib.hid HB6.out
          clear H6 HB6
          rw [meet_most ma mb hac hbc]
          obtain ⟨fa, fb, fc, fj, fm⟩ := id H5.out
          obtain ⟨a0, a1, a2, a3, a4, a5, a6, a7, a8⟩ := fa.cells
          obtain ⟨b0, b1, b2, b3, b4, b5, b6, b7, b8⟩ := fb.cells
          obtain ⟨c0, c1, c2, c3, c4, c5, c6, c7, c8⟩ := fc.cells
          obtain ⟨j0, j1, j2, j3, j4, j5, j6, j7, j8⟩ := fj.cells
          obtain ⟨m0, m1, m2, m3, m4, m5, m6, m7, m8⟩ := fm.cells
          clear fa fb fc fj fm
          go_wp2_with fail
          have hbo := covers_both ra rb ma mb
          have hse := covers_self ma
          have hq := run_eql_vec a b
          have cs := fun W => covers_any a a W
          simp only [hse] at cs
          have la9 := H5.out.1.lt
          have lb9 := H5.out.2.1.lt
          have hna := fun (n : Near w9.heap.size w9) (k : Nat) => near_cell w9.heap.size n w.heap.size k la9
          have hnb := fun (n : Near w9.heap.size w9) (k : Nat) => near_cell w9.heap.size n (w.heap.size + 1) k lb9
          have c1 := fun W => covers_any a b W
          have c2 := fun W => covers_any b a W
          clear hse
          cases hab : coversB a b with
          | false =>
            have hs : a.same b = false := by rw [← hbo, hab]; rfl
            simp only [hs] at hq
            simp only [hab] at c1
            clear hs hab hbo c2
            refine wp_region_dep w9.heap.size 18 (by kernel_rfl) (by kernel_rfl) (by rfl) (Nat.le_refl _) ?_
            simp only [List.take_succ_cons, List.take_zero, List.drop_succ_cons, List.drop_zero]
            iterate 2 (refine wpDep_plain (by rfl) (fun K hK => ?_); go_simp; (refine hK _ ?_; clear hK K))
            refine wpDep_plain (by rfl) (fun K hK => ?_); go_simp; refine ⟨_, fun n => callsTo_of (c1 _), ?_⟩; (refine hK _ ?_; clear hK K)
            iterate 12 (refine wpDep_plain (by rfl) (fun K hK => ?_); go_simp; (refine hK _ ?_; clear hK K))
            refine wpDep_plain (by rfl) (fun K hK => ?_); go_simp; refine ⟨_, fun n => callsTo_of (cs _), ?_⟩; (refine hK _ ?_; clear hK K)
            iterate 2 (refine wpDep_plain (by rfl) (fun K hK => ?_); go_simp; (refine hK _ ?_; clear hK K))
            refine wpDep_nil ?_
            intro f m _
            simp only [fillV]
            clear hna hnb
            go_wp2
            exact ⟨rfl, _, results_tmp rfl _ _ _, rfl, HBW.out.trans (m.h.mono HBW.out.size)⟩
          | true =>
            have hs : coversB b a = a.same b := by rw [← hbo, hab]; rfl
            simp only [hab] at c1
            simp only [hs] at c2
            clear hs hab hbo
            cases hs : a.same b with
            | false =>
              simp only [hs] at hq c2
              clear hs
              refine wp_region_dep w9.heap.size 18 (by kernel_rfl) (by kernel_rfl) (by rfl) (Nat.le_refl _) ?_
              simp only [List.take_succ_cons, List.take_zero, List.drop_succ_cons, List.drop_zero]
              iterate 2 (refine wpDep_plain (by rfl) (fun K hK => ?_); go_simp; (refine hK _ ?_; clear hK K))
              refine wpDep_plain (by rfl) (fun K hK => ?_); go_simp; refine ⟨_, fun n => callsTo_of (c1 _), ?_⟩; (refine hK _ ?_; clear hK K)
              iterate 3 (refine wpDep_plain (by rfl) (fun K hK => ?_); go_simp; (refine hK _ ?_; clear hK K))
              refine wpDep_plain (by rfl) (fun K hK => ?_); go_simp; refine ⟨_, fun n => callsTo_of (c2 _), ?_⟩; (refine hK _ ?_; clear hK K)
              iterate 8 (refine wpDep_plain (by rfl) (fun K hK => ?_); go_simp; (refine hK _ ?_; clear hK K))
              refine wpDep_plain (by rfl) (fun K hK => ?_); go_simp; refine ⟨_, fun n => callsTo_of (cs _), ?_⟩; (refine hK _ ?_; clear hK K)
              iterate 2 (refine wpDep_plain (by rfl) (fun K hK => ?_); go_simp; (refine hK _ ?_; clear hK K))
              refine wpDep_nil ?_
              intro f m _
              simp only [fillV]
              clear hna hnb
              go_wp2
              exact ⟨rfl, _, results_tmp rfl _ _ _, rfl, HBW.out.trans (m.h.mono HBW.out.size)⟩
            | true =>
              simp only [hs] at hq c2
              clear hs
              refine wp_region_dep w9.heap.size 18 (by kernel_rfl) (by kernel_rfl) (by rfl) (Nat.le_refl _) ?_
              simp only [List.take_succ_cons, List.take_zero, List.drop_succ_cons, List.drop_zero]
              iterate 2 (refine wpDep_plain (by rfl) (fun K hK => ?_); go_simp; (refine hK _ ?_; clear hK K))
              refine wpDep_plain (by rfl) (fun K hK => ?_); go_simp; refine ⟨_, fun n => callsTo_of (c1 _), ?_⟩; (refine hK _ ?_; clear hK K)
              iterate 3 (refine wpDep_plain (by rfl) (fun K hK => ?_); go_simp; (refine hK _ ?_; clear hK K))
              refine wpDep_plain (by rfl) (fun K hK => ?_); go_simp; refine ⟨_, fun n => callsTo_of (c2 _), ?_⟩; (refine hK _ ?_; clear hK K)
              iterate 8 (refine wpDep_plain (by rfl) (fun K hK => ?_); go_simp; (refine hK _ ?_; clear hK K))
              refine wpDep_plain (by rfl) (fun K hK => ?_); go_simp; refine ⟨_, fun n => callsTo_of (cs _), ?_⟩; (refine hK _ ?_; clear hK K)
              iterate 2 (refine wpDep_plain (by rfl) (fun K hK => ?_); go_simp; (refine hK _ ?_; clear hK K))
              refine wpDep_nil ?_
              intro f m _
              simp only [fillV]
              clear hna hnb
              go_wp2
              exact ⟨rfl, _, results_tmp rfl _ _ _, rfl, HBW.out.trans (m.h.mono HBW.out.size)⟩
end Go.Proofs.Ytjpgabpicfcapaa
