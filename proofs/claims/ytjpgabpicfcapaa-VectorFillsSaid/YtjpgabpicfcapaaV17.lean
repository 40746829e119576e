/- The walk of VectorFills, of two that may be. -/
import Derived.Test.YtjpgabpicfcapaaV17a
namespace Go.Proofs.Ytjpgabpicfcapaa
open Go.RowKit

def outI (a b : V) (l : List S3) (g : Nat) (w2 : World) (k : Nat) (n : Int) (W : World) : Prop := n = sumS (l.take k) ∧ vecIn W g (filled a b (l.take k)) ∧ Below w2.heap.size w2 W
def inI (a b v : V) (s : Nat) (n : Int) (g g9 : Nat) (w2 : World) (q c : Int) (W : World) : Prop :=
  a s + 1 ≤ q ∧ q ≤ b s + 1 ∧ c = n + (q - (a s + 1)) ∧ vecIn W g (v.set s (q - 1)) ∧ holds W g9 [.int .i64 (s : Int), .int .u64 (a s + 1), .int .u64 (b s)] ∧ Below w2.heap.size w2 W

set_option maxRecDepth 4000 in
set_option maxHeartbeats 2000000 in
theorem fills_yes (a b : V) (ra : a.rng) (rb : b.rng) (ma : a.may = true) (mb : b.may = true) (w : World) :
    Calls Try.prog 6 #[vec a, vec b] w fun e w' => e = .returned (.bool true) ∧ Below w.heap.size w w' := by
  have hl0 : lacksL a b = lackL a b all8 := by unfold lacksL; rw [if_pos (by rw [ma, mb]; rfl)]
  have hok := lacks_ok a b ra
  have hlen := lacks_len a b
  have hlk := fun W => lacks_any a b ra W
  have hmc := fun W => many_any a b ra W
  have hcv := fun W => covers_any a b W
  have hz1 := lack_none ma mb
  have hz2 := many_none (b := b) ra
  have hca := fun W => check_any a W
  have hcb := fun W => check_any b W
  simp only [ma, errOr] at hca
  simp only [mb, errOr] at hcb
  have hjr : joinR (fun x y : Int => max x y) a [b] = (joinV a b, 0) := by rw [joinR_one, ma, mb]; rfl
  have hjc := fun (g : Nat) (W : World) h => join_any a [b] (some ⟨g, 0, none⟩) 1 W h (by simp)
  rw [hjr] at hjc
  obtain ⟨l, hl⟩ : ∃ l, lacksL a b = l := ⟨_, rfl⟩
  rw [hl] at hok hlen hz1 hz2 hl0
  simp only [hl] at hlk hmc
  clear hl hjr
  obtain ⟨m, hm⟩ : ∃ m, manyS 0 l = m := ⟨_, rfl⟩
  obtain ⟨z, hz⟩ : ∃ z, (l.length == 0) = z := ⟨_, rfl⟩
  rw [hz] at hz1 hz2
  have hzi : ((l.length : Int) == 0) = z := by rw [← hz, Bool.eq_iff_iff]; simp
  have hle : ∀ x ∈ l, x.f ≤ x.t := fun x hx => (hok x hx).2.1
  have HM := Lib.hid (show m ≤ 60 → m = sumS l from fun h => by have := many_few l 0 hle (by omega) (by omega) (by omega); omega)
  rw [hm] at hz2
  simp only [hm] at hmc
  simp only [hz1] at hcv
  have HL0 := Lib.hid hl0
  have HLE := Lib.hid hle
  have HLK := Lib.hid hlk
  have HMC := Lib.hid hmc
  have HCV := Lib.hid hcv
  have HCA := Lib.hid hca
  have HCB := Lib.hid hcb
  have HJ := Lib.hid hjc
  have HRA := Lib.hid ra
  have HRB := Lib.hid rb
  have HMA := Lib.hid ma
  have HMB := Lib.hid mb
  clear hl0 hok hlk hmc hcv hz1 hz hm hca hcb hle hjc ra rb ma mb
  by_cases h60 : 60 < m
  all_goals
    go_enter Try.func6, Try.ntmps6
    go_wp2_with fail
    refine (wakes_any _).mono ?_
    rintro e w1 ⟨rfl, hB⟩
    have hb1 : Below w.heap.size w w1 := ((((Below.refl _ _).alloc (Nat.le_refl _) _).alloc (by simp) _)).trans (hB.mono (by simp <;> omega))
    have ha1 : vecIn w1 w.heap.size a := holds_below (holds_alloc (vecIn_new w a) _) hB (by simp <;> omega)
    have hv1 : vecIn w1 (w.heap.size + 1) b := by
      have := vecIn_new (w.alloc (.cells (vecA a) 24)) b
      rw [World.size_alloc] at this
      exact holds_below this hB (by simp <;> omega)
    clear hB
    obtain ⟨a0, a1, a2, a3, a4, a5, a6, a7, a8⟩ := ha1.cells
    obtain ⟨b0, b1, b2, b3, b4, b5, b6, b7, b8⟩ := hv1.cells
    have HB1 := Lib.hid hb1
    have HA1 := Lib.hid ha1
    have HV1 := Lib.hid hv1
    clear hb1 ha1 hv1
    go_wp2_with fail
    refine (HLK.out _).mono ?_
    rintro e w2 ⟨ar, cap, rfl, hrow, hc1, hc2, hc3, hB⟩
    clear a0 a1 a2 a3 a4 a5 a6 a7 a8 b0 b1 b2 b3 b4 b5 b6 b7 b8
    have hb2 : Below w.heap.size w w2 := HB1.out.trans (hB.mono HB1.out.size)
    have ha2 : vecIn w2 w.heap.size a := holds_below HA1.out hB HA1.out.lt
    have hv2 : vecIn w2 (w.heap.size + 1) b := holds_below HV1.out hB HV1.out.lt
    clear hB HA1 HV1 HB1
    have hn2 : Below w2.heap.size w2 w2 := Below.refl _ _
    have HR := Lib.hid hrow
    have KA := Lib.hid ha2
    have KV := Lib.hid hv2
    have KB := Lib.hid hb2
    clear hrow
    obtain ⟨a0, a1, a2, a3, a4, a5, a6, a7, a8⟩ := ha2.cells
    obtain ⟨b0, b1, b2, b3, b4, b5, b6, b7, b8⟩ := hv2.cells
    have HB2 := Lib.hid hb2
    have HA2 := Lib.hid ha2
    have HV2 := Lib.hid hv2
    clear hb2 ha2 hv2
    have HN2 := Lib.hid hn2
    clear hn2
    go_wp2_with fail
    refine (HCA.out _).mono ?_
    rintro e w3 ⟨rfl, hB⟩
    clear a0 a1 a2 a3 a4 a5 a6 a7 a8 b0 b1 b2 b3 b4 b5 b6 b7 b8
    have hb3 : Below w.heap.size w w3 := HB2.out.trans (hB.mono HB2.out.size)
    have ha3 : vecIn w3 w.heap.size a := holds_below HA2.out hB HA2.out.lt
    have hv3 : vecIn w3 (w.heap.size + 1) b := holds_below HV2.out hB HV2.out.lt
    have hn3 : Below w2.heap.size w2 w3 := HN2.out.trans (hB.mono HN2.out.size)
    clear hB HA2 HV2 HB2 HN2
    obtain ⟨a0, a1, a2, a3, a4, a5, a6, a7, a8⟩ := ha3.cells
    obtain ⟨b0, b1, b2, b3, b4, b5, b6, b7, b8⟩ := hv3.cells
    have HB3 := Lib.hid hb3
    have HA3 := Lib.hid ha3
    have HV3 := Lib.hid hv3
    clear hb3 ha3 hv3
    have HN3 := Lib.hid hn3
    clear hn3
    go_wp2_with fail
    refine (HCB.out _).mono ?_
    rintro e w4 ⟨rfl, hB⟩
    clear a0 a1 a2 a3 a4 a5 a6 a7 a8 b0 b1 b2 b3 b4 b5 b6 b7 b8
    have hb4 : Below w.heap.size w w4 := HB3.out.trans (hB.mono HB3.out.size)
    have ha4 : vecIn w4 w.heap.size a := holds_below HA3.out hB HA3.out.lt
    have hv4 : vecIn w4 (w.heap.size + 1) b := holds_below HV3.out hB HV3.out.lt
    have hn4 : Below w2.heap.size w2 w4 := HN3.out.trans (hB.mono HN3.out.size)
    clear hB HA3 HV3 HB3 HN3
    obtain ⟨a0, a1, a2, a3, a4, a5, a6, a7, a8⟩ := ha4.cells
    obtain ⟨b0, b1, b2, b3, b4, b5, b6, b7, b8⟩ := hv4.cells
    have HB4 := Lib.hid hb4
    have HA4 := Lib.hid ha4
    have HV4 := Lib.hid hv4
    clear hb4 ha4 hv4
    have HN4 := Lib.hid hn4
    clear hn4
    go_wp2_with fail
    refine (HCV.out _).mono ?_
    rintro e w5 ⟨rfl, hB⟩
    clear a0 a1 a2 a3 a4 a5 a6 a7 a8 b0 b1 b2 b3 b4 b5 b6 b7 b8
    have hb5 : Below w.heap.size w w5 := HB4.out.trans (hB.mono HB4.out.size)
    have ha5 : vecIn w5 w.heap.size a := holds_below HA4.out hB HA4.out.lt
    have hv5 : vecIn w5 (w.heap.size + 1) b := holds_below HV4.out hB HV4.out.lt
    have hn5 : Below w2.heap.size w2 w5 := HN4.out.trans (hB.mono HN4.out.size)
    clear hB HA4 HV4 HB4 HN4
    obtain ⟨a0, a1, a2, a3, a4, a5, a6, a7, a8⟩ := ha5.cells
    obtain ⟨b0, b1, b2, b3, b4, b5, b6, b7, b8⟩ := hv5.cells
    have HB5 := Lib.hid hb5
    have HA5 := Lib.hid ha5
    have HV5 := Lib.hid hv5
    clear hb5 ha5 hv5
    have HN5 := Lib.hid hn5
    clear hn5
    go_wp2_with fail
    refine (HMC.out _).mono ?_
    rintro e w6 ⟨rfl, hB⟩
    clear a0 a1 a2 a3 a4 a5 a6 a7 a8 b0 b1 b2 b3 b4 b5 b6 b7 b8
    have hb6 : Below w.heap.size w w6 := HB5.out.trans (hB.mono HB5.out.size)
    have ha6 : vecIn w6 w.heap.size a := holds_below HA5.out hB HA5.out.lt
    have hv6 : vecIn w6 (w.heap.size + 1) b := holds_below HV5.out hB HV5.out.lt
    have hn6 : Below w2.heap.size w2 w6 := HN5.out.trans (hB.mono HN5.out.size)
    clear hB HA5 HV5 HB5 HN5
    obtain ⟨a0, a1, a2, a3, a4, a5, a6, a7, a8⟩ := ha6.cells
    obtain ⟨b0, b1, b2, b3, b4, b5, b6, b7, b8⟩ := hv6.cells
    have HB6 := Lib.hid hb6
    have HA6 := Lib.hid ha6
    have HV6 := Lib.hid hv6
    clear hb6 ha6 hv6
    have HN6 := Lib.hid hn6
    clear hn6
    go_wp2_with fail
    refine (HMC.out _).mono ?_
    rintro e w7 ⟨rfl, hB⟩
    clear a0 a1 a2 a3 a4 a5 a6 a7 a8 b0 b1 b2 b3 b4 b5 b6 b7 b8
    have hb7 : Below w.heap.size w w7 := HB6.out.trans (hB.mono HB6.out.size)
    have ha7 : vecIn w7 w.heap.size a := holds_below HA6.out hB HA6.out.lt
    have hv7 : vecIn w7 (w.heap.size + 1) b := holds_below HV6.out hB HV6.out.lt
    have hn7 : Below w2.heap.size w2 w7 := HN6.out.trans (hB.mono HN6.out.size)
    clear hB HA6 HV6 HB6 HN6
  · go_wp2_with fail
    exact ⟨rfl, _, results_tmp rfl _ _ _, rfl, hb7⟩
  · have hs7 := hn7.size
    have HN7 := Lib.hid hn7
    have HS7 := Lib.hid hs7
    obtain ⟨a0, a1, a2, a3, a4, a5, a6, a7, a8⟩ := ha7.cells
    have la7 := ha7.lt
    clear ha7 hv7 hb7 hn7 hs7
    go_wp2_with fail
    clear a0 a1 a2 a3 a4 a5 a6 a7 a8
    have h6m : m = sumS l := HM.out (by omega)
    have h6s : sumS l ≤ 60 := by omega
    have HH := Lib.hid h6m
    clear h6m
    go_loopw [7, 68] (fun c i wr => ∃ k : Nat, k ≤ l.length ∧ i = .int .i64 k ∧ ∃ n : Int, c = .int .u64 n ∧ outI a b l w7.heap.size w2 k n wr)
      (fun _ i _ => l.length - (intOf i).toNat)
    case atStart =>
      exact ⟨0, Nat.zero_le _, rfl, 0, rfl, rfl, (by rw [List.take_zero, filled_nil]; exact vecIn_new w7 a), HN7.out.alloc HS7.out _⟩
    case round =>
      obtain ⟨k, hk, rfl, n, rfl, hn, hv, hb⟩ := hrel
      by_cases hlt : k < l.length
      · obtain ⟨s, s1, s8, hab, hx⟩ := mem_lackL (by rw [← HL0.out]; exact List.getElem_mem hlt : l[k] ∈ lackL a b all8)
        have f1 := filled_start HL0.out hlt
        have f2 := filled_next HL0.out hlt
        have f3 := sum_take_le HLE.out k hlt
        rw [hx] at f1 f2 f3
        simp only [Int.toNat_natCast] at f1 f2 f3
        rw [← hn] at f3
        obtain ⟨f3, f4, f5⟩ := f3
        have m0 : (filled a b (l.take k)).may = true := filled_may HMA.out HMB.out _ fun x hx => mem_lackL (by rw [← HL0.out]; exact List.mem_of_mem_take hx)
        have r0 : (filled a b (l.take k)).rng := filled_rng HRA.out HRB.out _
        obtain ⟨p, off, rfl, hc⟩ := (rowV_below HR.out hb).2.resolve_left (by intro e; subst e; simp at hlt)
        have d0 := hc.2 k hlt 0 (by omega)
        have d1 := hc.2 k hlt 1 (by omega)
        have d2 := hc.2 k hlt 2 (by omega)
        simp only [enT, hx, List.getElem?_cons_zero, List.getElem?_cons_succ, Nat.add_zero] at d0 d1 d2
        have q0 := (HRA.out s (by omega)).1
        have q9 := may_le HMB.out s (by omega)
        generalize filled a b (l.take k) = v at *
        have F1 := Lib.hid f1
        have F2 := Lib.hid f2
        have F3 := Lib.hid f3
        have F0 := Lib.hid m0
        have FR := Lib.hid r0
        have FV := Lib.hid hv
        have FB := Lib.hid hb
        have FX := Lib.hid hx
        have hsz := hb.size
        have lg := hv.lt
        have FS := Lib.hid hsz
        clear f1 f2 f3 m0 r0 hc hn hx hv hb hsz
        go_wp2_with fail
        clear d0 d1 d2
        go_loopw [7, 10] (fun c j W => ∃ q c' : Int, c = .int .u64 c' ∧ j = .int .u64 q ∧ inI a b v s n w7.heap.size wr.heap.size w2 q c' W)
          (fun _ j _ => (b s + 1 - intOf j).toNat)
        case atStart =>
          exact ⟨_, _, rfl, rfl, Int.le_refl _, by omega, by omega, holds_alloc (by rw [F1.out]; exact FV.out) _, holds_new wr _ _, FB.out.alloc FS.out _⟩
        case round =>
          obtain ⟨q, c, rfl, rfl, p1, p2, hcq, hv, h9, hb⟩ := hrel
          have hcn : 0 ≤ c := by omega
          have hc6 : c ≤ 60 := by have := F3.out; omega
          have HC := Lib.hid hcq
          have lg0 := hv.lt
          have l90 := h9.lt
          have hs0 := hb.size
          have lw : w.heap.size + 1 < w2.heap.size := KV.out.lt
          by_cases hq : q ≤ b s
          · have HS := Lib.hid (step_of (a := a) HMB.out (v := v.set s (q - 1)) (set_may F0.out s1 (by omega)) (set_rng FR.out (by omega) (by omega)) s1 s8 (q := q) (by unfold V.set; rw [if_pos rfl]) hq)
            have KU := Lib.hid (show (v.set s (q - 1)).set s q = v.set s (q + 1 - 1) by rw [set_set]; congr 1; omega)
            generalize v.set s (q - 1) = u at *
            obtain ⟨u', hu'⟩ : ∃ u', v.set s (q + 1 - 1) = u' := ⟨_, rfl⟩
            rw [hu'] at KU
            have HU := Lib.hid hu'
            clear hu'
            have hHas := fun W => has_any u ⟨9, s, q⟩ HS.out.rng W
            have hNext := fun W => next_any u ⟨9, s, q⟩ HS.out.rng W
            have hHasB := fun W => has_any b ⟨9, s, q⟩ HRB.out W
            have hHasN := fun W => has_any (u.set s q) ⟨9, s, q⟩ HS.out.rng' W
            have hCov := fun W => covers_any (u.set s q) u W
            have hWith := fun W g h => withs_of HS.out.rng HS.out.withs W g h
            simp only [HS.out.no] at hHas
            simp only [HS.out.next] at hNext
            simp only [HS.out.there] at hHasB
            simp only [HS.out.has] at hHasN
            simp only [HS.out.covers] at hCov
            rw [KU.out] at hHasN hCov hWith
            have K1 := Lib.hid hHas
            have K2 := Lib.hid hNext
            have K3 := Lib.hid hHasB
            have K4 := Lib.hid hHasN
            have K5 := Lib.hid hCov
            have K6 := Lib.hid hWith
            clear hHas hNext hHasB hHasN hCov hWith hcq
            -- id
            obtain ⟨t0, t1, t2⟩ := holdsT.cells h9
            have G0 := Lib.hid hv
            have N0 := Lib.hid h9
            have B0 := Lib.hid hb
            clear hv h9 hb
            go_wp2_with fail
            refine (id_any _ _ _).mono ?_
            rintro e v1 ⟨rfl, hB⟩
            have G1 := Lib.hid (holds_below G0.out hB lg0)
            have N1 := Lib.hid (holds_below N0.out hB l90)
            have B1 := Lib.hid (B0.out.trans (hB.mono hs0))
            have lg1 := G1.out.lt
            have hs1 := B1.out.size
            have HX := Lib.hid (show holds (v1.alloc (.cells #[.int .u64 9, .int .i64 (s : Int), .int .u64 q] 29)) v1.heap.size [.int .u64 9, .int .i64 (s : Int), .int .u64 q] from holds_new v1 _ _)
            clear t0 t1 t2 hB G0 N0 B0 lg0 l90 hs0
            -- Has(at, i)
            obtain ⟨z0, z1, z2, z3, z4, z5, z6, z7, z8⟩ := vecIn.cells G1.out
            go_wp2_with fail
            refine (K1.out _).mono ?_
            rintro e v2 ⟨rfl, hB⟩
            clear z0 z1 z2 z3 z4 z5 z6 z7 z8
            have hB1 : Below v1.heap.size v1 v2 := ((Below.refl _ _).alloc (Nat.le_refl _) _).trans (hB.mono (by simp))
            have G2 := Lib.hid (holds_below G1.out hB1 lg1)
            have N2 := Lib.hid (holds_below N1.out hB1 N1.out.lt)
            have B2 := Lib.hid (B1.out.trans (hB1.mono hs1))
            have I2 := Lib.hid (holds_below HX.out hB HX.out.lt)
            clear hB hB1 G1 N1 B1 HX hs1
            -- call 2
            obtain ⟨z0, z1, z2, z3, z4, z5, z6, z7, z8⟩ := vecIn.cells G2.out
            obtain ⟨x0, x1, x2⟩ := holdsI.cells I2.out
            go_wp2_with fail
            refine (K2.out _).mono ?_
            rintro e v3 ⟨rfl, hB⟩
            clear z0 z1 z2 z3 z4 z5 z6 z7 z8 x0 x1 x2
            have G3 := Lib.hid (holds_below G2.out hB G2.out.lt)
            have N3 := Lib.hid (holds_below N2.out hB N2.out.lt)
            have I3 := Lib.hid (holds_below I2.out hB I2.out.lt)
            have B3 := Lib.hid (B2.out.trans (hB.mono B2.out.size))
            clear hB G2 N2 B2 I2
            -- call 3
            have hbb3 : vecIn v3 (w.heap.size + 1) b := holds_below KV.out B3.out KV.out.lt
            obtain ⟨y0, y1, y2, y3, y4, y5, y6, y7, y8⟩ := hbb3.cells
            clear hbb3
            obtain ⟨x0, x1, x2⟩ := holdsI.cells I3.out
            go_wp2_with fail
            refine (K3.out _).mono ?_
            rintro e v4 ⟨rfl, hB⟩
            clear y0 y1 y2 y3 y4 y5 y6 y7 y8 x0 x1 x2
            have G4 := Lib.hid (holds_below G3.out hB G3.out.lt)
            have N4 := Lib.hid (holds_below N3.out hB N3.out.lt)
            have I4 := Lib.hid (holds_below I3.out hB I3.out.lt)
            have B4 := Lib.hid (B3.out.trans (hB.mono B3.out.size))
            clear hB G3 N3 B3 I3
            -- With
            obtain ⟨z0, z1, z2, z3, z4, z5, z6, z7, z8⟩ := vecIn.cells G4.out
            obtain ⟨x0, x1, x2⟩ := holdsI.cells I4.out
            have lg4 := G4.out.lt
            have li4 := I4.out.lt
            have hs4 := B4.out.size
            go_wp2_with fail
            refine (K6.out _ _ (blockIs_new v4 _ _)).mono ?_
            rintro e v5 ⟨rfl, hB⟩
            clear z0 z1 z2 z3 z4 z5 z6 z7 z8 x0 x1 x2
            have hB1 : Below v4.heap.size v4 v5 := ((Below.refl _ _).alloc (Nat.le_refl _) _).trans (hB.mono (by simp))
            have G5 := Lib.hid (holds_below G4.out hB1 lg4)
            have N5 := Lib.hid (holds_below N4.out hB1 N4.out.lt)
            have B5 := Lib.hid (B4.out.trans (hB1.mono hs4))
            have I5 := Lib.hid (holds_below I4.out hB1 li4)
            clear hB hB1 G4 N4 B4 I4 hs4 lg4 li4
            -- Has(n, i)
            obtain ⟨x0, x1, x2⟩ := holdsI.cells I5.out
            have lg5 := G5.out.lt
            have li5 := I5.out.lt
            have hs5 := B5.out.size
            go_wp2_with fail
            refine (K4.out _).mono ?_
            rintro e v6 ⟨rfl, hB⟩
            clear x0 x1 x2
            have hB1 : Below v5.heap.size v5 v6 := ((Below.refl _ _).alloc (Nat.le_refl _) _).trans (hB.mono (by simp))
            have G6 := Lib.hid (holds_below G5.out hB1 lg5)
            have N6 := Lib.hid (holds_below N5.out hB1 N5.out.lt)
            have B6 := Lib.hid (B5.out.trans (hB1.mono hs5))
            have M6 := Lib.hid (show vecIn v6 v5.heap.size u' from holds_below (vecIn_new v5 u') hB (by simp))
            clear hB hB1 G5 N5 B5 I5 hs5 lg5 li5
            -- Covers(n, at)
            obtain ⟨z0, z1, z2, z3, z4, z5, z6, z7, z8⟩ := vecIn.cells G6.out
            obtain ⟨y0, y1, y2, y3, y4, y5, y6, y7, y8⟩ := vecIn.cells M6.out
            go_wp2_with fail
            refine (K5.out _).mono ?_
            rintro e v7 ⟨rfl, hB⟩
            clear z0 z1 z2 z3 z4 z5 z6 z7 z8 y0 y1 y2 y3 y4 y5 y6 y7 y8
            have G7 := Lib.hid (show vecIn v7 w7.heap.size u from holds_below G6.out hB G6.out.lt)
            have N7 := Lib.hid (holds_below N6.out hB N6.out.lt)
            have B7 := Lib.hid (B6.out.trans (hB.mono B6.out.size))
            have M7 := Lib.hid (show vecIn v7 v5.heap.size u' from holds_below M6.out hB M6.out.lt)
            clear hB G6 N6 B6 M6
            -- at = n
            obtain ⟨z0, z1, z2, z3, z4, z5, z6, z7, z8⟩ := vecIn.cells G7.out
            have f0 := vecIn.free G7.out 0 (by omega)
            have f1 := vecIn.free G7.out 1 (by omega)
            have f2 := vecIn.free G7.out 2 (by omega)
            have f3 := vecIn.free G7.out 3 (by omega)
            have f4 := vecIn.free G7.out 4 (by omega)
            have f5 := vecIn.free G7.out 5 (by omega)
            have f6 := vecIn.free G7.out 6 (by omega)
            have f7 := vecIn.free G7.out 7 (by omega)
            have f8 := vecIn.free G7.out 8 (by omega)
            obtain ⟨y0, y1, y2, y3, y4, y5, y6, y7, y8⟩ := vecIn.cells M7.out
            go_wp2_with fail
            clear z0 z1 z2 z3 z4 z5 z6 z7 z8 y0 y1 y2 y3 y4 y5 y6 y7 y8 f0 f1 f2 f3 f4 f5 f6 f7 f8
            refine ⟨⟨q + 1, c + 1, rfl, rfl, by omega, by omega, by have := HC.out; omega, ?_, put9_other N7.out (Nat.ne_of_lt lg) u', put9_below B7.out HS7.out u'⟩, ?_⟩
            · rw [HU.out]; exact vecIn_put G7.out u'
            · simp [intOf]; omega
          · have hqe : q = b s + 1 := by omega
            have HV9 := Lib.hid (show vecIn wr w7.heap.size (filled a b (l.take (k + 1))) by rw [← F2.out]; rw [hqe, show b s + 1 - 1 = b s by omega] at hv; exact hv)
            have HBB := Lib.hid hb
            have HC9 := Lib.hid (show c = sumS (l.take (k + 1)) by have := F3.out; omega)
            obtain ⟨t0, t1, t2⟩ := holdsT.cells h9
            clear hv h9 hb hqe
            go_wp2_with fail
            refine ⟨⟨k + 1, hlt, by go_num, c, rfl, HC9.out, HV9.out, HBB.out⟩, ?_⟩
            simp [intOf]; omega
      · obtain rfl : k = l.length := by omega
        rw [List.take_length] at hn hv
        have hnm : n = m := by rw [hn, ← HH.out]
        subst hnm
        have hq : ∀ W, (binOp .eql 24 (vec (filled a b l)) (vec (joinV a b))).run Try.prog W = .ok (.bool true) W := fun W => by
          rw [run_eql_vec, (V.same_iff _ _).2 (filled_all HL0.out)]
        have hA1 : vecIn wr w.heap.size a := holds_below KA.out hb KA.out.lt
        have hV1 : vecIn wr (w.heap.size + 1) b := holds_below KV.out hb KV.out.lt
        obtain ⟨a0, a1, a2, a3, a4, a5, a6, a7, a8⟩ := hA1.cells
        obtain ⟨b0, b1, b2, b3, b4, b5, b6, b7, b8⟩ := hV1.cells
        generalize filled a b l = u at *
        have FA := Lib.hid hA1
        have FV := Lib.hid hV1
        have FG := Lib.hid hv
        have FB := Lib.hid hb
        have FH := Lib.hid hn
        clear hA1 hV1 hv hb hn
        have HQ := Lib.hid hq
        clear hq
        go_wp2_with fail
        refine (HJ.out _ _ (row_alloc' b wr _ rfl)).mono ?_
        rintro e x1 ⟨rfl, hB⟩
        clear a0 a1 a2 a3 a4 a5 a6 a7 a8 b0 b1 b2 b3 b4 b5 b6 b7 b8
        have hB1 : Below wr.heap.size wr x1 := ((Below.refl _ _).alloc (Nat.le_refl _) _).trans (hB.mono (by simp))
        have FA1 := Lib.hid (holds_below FA.out hB1 FA.out.lt)
        have FV1 := Lib.hid (holds_below FV.out hB1 FV.out.lt)
        have FG1 := Lib.hid (holds_below FG.out hB1 FG.out.lt)
        have FB1 := Lib.hid (FB.out.trans (hB1.mono FB.out.size))
        clear hB hB1 FA FV FG FB
        obtain ⟨a0, a1, a2, a3, a4, a5, a6, a7, a8⟩ := vecIn.cells FA1.out
        obtain ⟨b0, b1, b2, b3, b4, b5, b6, b7, b8⟩ := vecIn.cells FV1.out
        obtain ⟨z0, z1, z2, z3, z4, z5, z6, z7, z8⟩ := vecIn.cells FG1.out
        have l1 := FA1.out.lt
        have l2 := FV1.out.lt
        have l3 := FG1.out.lt
        have l4 := FB1.out.size
        have hq := HQ.out
        go_wp2_with fail
        refine (HMC.out _).mono ?_
        rintro e x2 ⟨rfl, hB⟩
        clear a0 a1 a2 a3 a4 a5 a6 a7 a8 b0 b1 b2 b3 b4 b5 b6 b7 b8 z0 z1 z2 z3 z4 z5 z6 z7 z8 hq
        have HE := Lib.hid (show Below w.heap.size w x2 from (KB.out.trans (FB1.out.mono KB.out.size)).trans ((((Below.refl _ _).alloc (Nat.le_refl _) _).trans (hB.mono (by simp))).mono (Nat.le_trans KB.out.size l4)))
        go_wp2_with fail
        exact ⟨rfl, _, results_tmp rfl _ _ _, rfl, HE.out⟩
end Go.Proofs.Ytjpgabpicfcapaa
