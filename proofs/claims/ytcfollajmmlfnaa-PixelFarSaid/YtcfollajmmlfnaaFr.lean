/- PixelFar, walked -/
import Derived.Deep.Cut
import Derived.Test.YtcfollajmmlfnaaR6
namespace Go.Proofs.Ytcfollajmmlfnaa
open Go.RowKit

set_option maxRecDepth 4000 in
set_option maxHeartbeats 8000000 in
theorem farlaw_any (c : C4) (hok : c.ok) (xs : List C4) (a0 : Option Addr) (cap : Nat) (tol : Int) (w : World) (hx : rowCols w a0 xs.length xs) (hcap : xs.length ≤ cap) (hmax : cap ≤ maxLen) (hnil : a0 = none → cap = 0) :
    Calls Try.prog 4 #[c.val, .slice a0 xs.length cap, .int .i64 tol] w fun e w' => e = .returned (.bool true) ∧ Below w.heap.size w w' := by
  have hmax' : maxLen ≤ 9223372036854775807 := by decide
  go_enter Try.func4, Try.ntmps4
  go_wp2_with fail
  refine (wakes_any _).mono ?_
  rintro e w1 ⟨rfl, hB1⟩
  have s1 := hB1.size
  simp only [World.size_alloc] at s1
  have cc0 : w1.cell? ⟨w.heap.size, 0, none⟩ = some (.int .u8 c.r) := (hB1.cell (p := ⟨w.heap.size, 0, none⟩) (by simp)).trans (by simp [go_sem])
  have cc1 : w1.cell? ⟨w.heap.size, 1, none⟩ = some (.int .u8 c.g) := (hB1.cell (p := ⟨w.heap.size, 1, none⟩) (by simp)).trans (by simp [go_sem])
  have cc2 : w1.cell? ⟨w.heap.size, 2, none⟩ = some (.int .u8 c.b) := (hB1.cell (p := ⟨w.heap.size, 2, none⟩) (by simp)).trans (by simp [go_sem])
  have cc3 : w1.cell? ⟨w.heap.size, 3, none⟩ = some (.int .u8 c.a) := (hB1.cell (p := ⟨w.heap.size, 3, none⟩) (by simp)).trans (by simp [go_sem])
  have l0 : w.heap.size < w1.heap.size := by omega
  have hb1 : Below w.heap.size w w1 := ((Below.refl _ _).alloc (Nat.le_refl _) _).trans (hB1.mono (by simp))
  have hx1 := rowCols_below hx hb1
  have HX := Lib.hid hx1
  clear hB1 hx hx1
  go_upto_region 3 with fail
  rename_i KK hKK
  have key : ∀ (u16 u17 u18 : Value) (a1 : Option Addr) (n cp : Nat) (l : List C4) (W : World), n = l.length → l = xs.take n → n ≤ xs.length → n ≤ 12 → rowCols W a1 l.length l → Below w1.heap.size w1 W → KK ⟨#[c.val, .slice a0 xs.length cap, .int .i64 tol, .pointer (some ⟨w.heap.size, 0, none⟩), undef, undef, .bool false, .slice a1 n cp, undef, undef, undef, undef, .bool true, .bool false, .slice a0 xs.length cap, .slice a0 xs.length cap, u16, u17, u18, .slice a1 n cp, undef, undef, undef, undef, undef, undef, undef, undef, undef, undef, undef, undef, undef, undef, undef, undef, undef, undef, undef, undef, undef, undef, undef, undef, undef, undef, undef, undef, undef, undef, undef, undef, undef, undef, undef, undef, undef, undef, undef, undef, undef, undef, undef, undef, undef, undef, undef, undef, undef, undef, undef, undef], []⟩ W := by
    intro u16 u17 u18 a1 n cp l W hn hl hnx h12 hr hBW
    subst hn
    have HL := Lib.hid hl
    clear hl
    have hsW := hBW.size
    have hlok := hr.2.1
    refine hKK _ _ ?_
    clear hKK
    go_wp2
    go_loopw [8, 9, 10, 11, 22] (fun bst _ _ _ i wr => ∃ k : Nat, k ≤ l.length ∧ i = .int .i64 k ∧ bst = .int .i64 (nearUpto c l k).1 ∧ Below W.heap.size W wr)
      (fun _ _ _ _ i _ => l.length - (intOf i).toNat)
    case atStart => exact ⟨0, Nat.zero_le _, rfl, rfl, Below.refl _ _⟩
    case round =>
      obtain ⟨k, hk, rfl, rfl, hB⟩ := hrel
      have hsr := hB.size
      have e0 := ((hBW.trans (hB.mono hsW)).cell (p := ⟨w.heap.size, 0, none⟩) l0).trans cc0
      have e1 := ((hBW.trans (hB.mono hsW)).cell (p := ⟨w.heap.size, 1, none⟩) l0).trans cc1
      have e2 := ((hBW.trans (hB.mono hsW)).cell (p := ⟨w.heap.size, 2, none⟩) l0).trans cc2
      have e3 := ((hBW.trans (hB.mono hsW)).cell (p := ⟨w.heap.size, 3, none⟩) l0).trans cc3
      have l1 : w.heap.size < wr.heap.size := by omega
      have l2 : w.heap.size < wr.heap.size + 1 := by omega
      have hn := @near_cell (wr.heap.size + 1)
      have hBw : Below w.heap.size w wr := hb1.trans ((hBW.mono (by omega)).trans (hB.mono (by omega)))
      by_cases hlt : k < l.length
      · have hne : l ≠ [] := by intro e; subst e; simp at hlt
        obtain ⟨b, off, rfl, hb, hc⟩ := hr.2.2.resolve_left hne
        clear hne
        obtain ⟨d0, d1, d2, d3⟩ := hc k hlt
        have d0 := (hB.cell (p := ⟨b, _, none⟩) hb).trans d0
        have d1 := (hB.cell (p := ⟨b, _, none⟩) hb).trans d1
        have d2 := (hB.cell (p := ⟨b, _, none⟩) hb).trans d2
        have d3 := (hB.cell (p := ⟨b, _, none⟩) hb).trans d3
        have lb : b < wr.heap.size := by omega
        have lb2 : b < wr.heap.size + 1 := by omega
        have hxok := hlok _ (List.getElem_mem hlt)
        have hxb := far_bd c l[k] hok hxok
        have hst : nearUpto c l (k + 1) = nearStep c (nearUpto c l k) k l[k] := by
          conv => lhs; unfold nearUpto
          rw [List.getElem?_eq_getElem hlt]
        rcases nearUpto_least c hok l hlok k hk with ⟨rfl, e⟩ | ⟨p, hp, hpk, e⟩
        rotate_left
        · have hyok := hlok _ (List.getElem_mem hp)
          have hyb := far_bd c l[p] hok hyok
          obtain ⟨f0, f1, f2, f3⟩ := hc p hp
          have f0 := (hB.cell (p := ⟨b, _, none⟩) hb).trans f0
          have f1 := (hB.cell (p := ⟨b, _, none⟩) hb).trans f1
          have f2 := (hB.cell (p := ⟨b, _, none⟩) hb).trans f2
          have f3 := (hB.cell (p := ⟨b, _, none⟩) hb).trans f3
          rw [e] at hst ⊢
          clear e hc hr hlok
          generalize l[k] = x at *
          generalize l[p] = y at *
          have HS := Lib.hid hst
          clear hst
          have hp0 : decide ((p : Int) < 0) = false := by simp
          by_cases hcmp : c.far x < c.far y
          · skip
            have hdec : decide (c.far x < c.far y) = true := decide_eq_true hcmp
            have HP := Lib.hid hcmp
            clear hcmp
            go_wp2_with fail
            refine (rfar_any c x hok hxok _).mono ?_
            rintro e w2 ⟨rfl, hB2⟩
            obtain ⟨m, rfl⟩ : ∃ m : Near (wr.heap.size + 1) (wr.alloc (.cells #[.int .u8 x.r, .int .u8 x.g, .int .u8 x.b, .int .u8 x.a] 26)), w2 = m.u := ⟨⟨w2, hB2.mono (by simp)⟩, rfl⟩
            clear hB2
            go_wp2_with fail
            refine (far_any c x hok hxok _).mono ?_
            rintro e w3 ⟨rfl, hB3⟩
            obtain ⟨m3, rfl⟩ : ∃ m3 : Near (wr.heap.size + 1) (wr.alloc (.cells #[.int .u8 x.r, .int .u8 x.g, .int .u8 x.b, .int .u8 x.a] 26)), w3 = m3.u := ⟨⟨w3, m.h.trans (hB3.mono (by have := m.h.size; simp at this; omega))⟩, rfl⟩
            clear hB3 m
            go_wp2_with fail
            refine (near_any c x hok hxok _ _).mono ?_
            rintro e w4 ⟨rfl, hB4⟩
            obtain ⟨m4, rfl⟩ : ∃ m4 : Near (wr.heap.size + 1) (wr.alloc (.cells #[.int .u8 x.r, .int .u8 x.g, .int .u8 x.b, .int .u8 x.a] 26)), w4 = m4.u := ⟨⟨w4, m3.h.trans (hB4.mono (by have := m3.h.size; simp at this; omega))⟩, rfl⟩
            clear hB4 m3
            have s4 := m4.h.size
            simp only [World.size_alloc] at s4
            go_wp2
            refine wp_region_dep (wr.heap.size + 1) 11 (by kernel_rfl) (by kernel_rfl) (by rfl) s4 ?_
            simp only [List.take_succ_cons, List.take_zero, List.drop_succ_cons, List.drop_zero]
            iterate 9 (refine wpDep_plain (by rfl) (fun K hK => ?_); go_simp; (refine hK _ ?_; clear hK K))
            refine wpDep_plain (by rfl) (fun K hK => ?_); go_simp; refine ⟨_, fun n => callsTo_of (rfar_any c y hok hyok _), ?_⟩; (refine hK _ ?_; clear hK K)
            refine wpDep_plain (by rfl) (fun K hK => ?_); go_simp; (refine hK _ ?_; clear hK K)
            refine wpDep_nil ?_
            intro f m5 _
            simp only [fillV]
            go_wp2
            have hBn : Below W.heap.size W m5.u := ((hB.alloc (by omega) _).trans (m4.h.mono (by omega))).trans (m5.h.mono (by omega))
            go_roundw
            case rel => exact ⟨k + 1, hlt, by go_num, by rw [HS.out]; unfold nearStep; rw [if_pos HP.out], hBn⟩
            case measure => simp [intOf]; omega
          · skip
            have hdec : decide (c.far x < c.far y) = false := decide_eq_false hcmp
            have HP := Lib.hid hcmp
            clear hcmp
            go_wp2_with fail
            refine (rfar_any c x hok hxok _).mono ?_
            rintro e w2 ⟨rfl, hB2⟩
            obtain ⟨m, rfl⟩ : ∃ m : Near (wr.heap.size + 1) (wr.alloc (.cells #[.int .u8 x.r, .int .u8 x.g, .int .u8 x.b, .int .u8 x.a] 26)), w2 = m.u := ⟨⟨w2, hB2.mono (by simp)⟩, rfl⟩
            clear hB2
            go_wp2_with fail
            refine (far_any c x hok hxok _).mono ?_
            rintro e w3 ⟨rfl, hB3⟩
            obtain ⟨m3, rfl⟩ : ∃ m3 : Near (wr.heap.size + 1) (wr.alloc (.cells #[.int .u8 x.r, .int .u8 x.g, .int .u8 x.b, .int .u8 x.a] 26)), w3 = m3.u := ⟨⟨w3, m.h.trans (hB3.mono (by have := m.h.size; simp at this; omega))⟩, rfl⟩
            clear hB3 m
            go_wp2_with fail
            refine (near_any c x hok hxok _ _).mono ?_
            rintro e w4 ⟨rfl, hB4⟩
            obtain ⟨m4, rfl⟩ : ∃ m4 : Near (wr.heap.size + 1) (wr.alloc (.cells #[.int .u8 x.r, .int .u8 x.g, .int .u8 x.b, .int .u8 x.a] 26)), w4 = m4.u := ⟨⟨w4, m3.h.trans (hB4.mono (by have := m3.h.size; simp at this; omega))⟩, rfl⟩
            clear hB4 m3
            have s4 := m4.h.size
            simp only [World.size_alloc] at s4
            go_wp2
            refine wp_region_dep (wr.heap.size + 1) 11 (by kernel_rfl) (by kernel_rfl) (by rfl) s4 ?_
            simp only [List.take_succ_cons, List.take_zero, List.drop_succ_cons, List.drop_zero]
            iterate 9 (refine wpDep_plain (by rfl) (fun K hK => ?_); go_simp; (refine hK _ ?_; clear hK K))
            refine wpDep_plain (by rfl) (fun K hK => ?_); go_simp; refine ⟨_, fun n => callsTo_of (rfar_any c y hok hyok _), ?_⟩; (refine hK _ ?_; clear hK K)
            refine wpDep_plain (by rfl) (fun K hK => ?_); go_simp; (refine hK _ ?_; clear hK K)
            refine wpDep_nil ?_
            intro f m5 _
            simp only [fillV]
            go_wp2
            have hBn : Below W.heap.size W m5.u := ((hB.alloc (by omega) _).trans (m4.h.mono (by omega))).trans (m5.h.mono (by omega))
            go_roundw
            case rel => exact ⟨k + 1, hlt, by go_num, by rw [HS.out]; unfold nearStep; rw [if_neg (Int.not_lt.2 HP.out)], hBn⟩
            case measure => simp [intOf]; omega
        rw [e] at hst ⊢
        clear e hc hr hlok
        simp only [Nat.zero_mul, Nat.add_zero] at d0 d1 d2 d3
        generalize l[0] = x at *
        have HS := Lib.hid hst
        clear hst
        go_wp2_with fail
        refine (rfar_any c x hok hxok _).mono ?_
        rintro e w2 ⟨rfl, hB2⟩
        obtain ⟨m, rfl⟩ : ∃ m : Near (wr.heap.size + 1) (wr.alloc (.cells #[.int .u8 x.r, .int .u8 x.g, .int .u8 x.b, .int .u8 x.a] 26)), w2 = m.u := ⟨⟨w2, hB2.mono (by simp)⟩, rfl⟩
        clear hB2
        go_wp2_with fail
        refine (far_any c x hok hxok _).mono ?_
        rintro e w3 ⟨rfl, hB3⟩
        obtain ⟨m3, rfl⟩ : ∃ m3 : Near (wr.heap.size + 1) (wr.alloc (.cells #[.int .u8 x.r, .int .u8 x.g, .int .u8 x.b, .int .u8 x.a] 26)), w3 = m3.u := ⟨⟨w3, m.h.trans (hB3.mono (by have := m.h.size; simp at this; omega))⟩, rfl⟩
        clear hB3 m
        go_wp2_with fail
        refine (near_any c x hok hxok _ _).mono ?_
        rintro e w4 ⟨rfl, hB4⟩
        obtain ⟨m4, rfl⟩ : ∃ m4 : Near (wr.heap.size + 1) (wr.alloc (.cells #[.int .u8 x.r, .int .u8 x.g, .int .u8 x.b, .int .u8 x.a] 26)), w4 = m4.u := ⟨⟨w4, m3.h.trans (hB4.mono (by have := m3.h.size; simp at this; omega))⟩, rfl⟩
        clear hB4 m3
        have s4 := m4.h.size
        simp only [World.size_alloc] at s4
        go_wp2
        refine wp_region_dep (wr.heap.size + 1) 11 (by kernel_rfl) (by kernel_rfl) (by rfl) s4 ?_
        simp only [List.take_succ_cons, List.take_zero, List.drop_succ_cons, List.drop_zero]
        iterate 11 (refine wpDep_plain (by rfl) (fun K hK => ?_); go_simp; (refine hK _ ?_; clear hK K))
        refine wpDep_nil ?_
        intro f m5 _
        simp only [fillV]
        go_wp2
        have hBn : Below W.heap.size W m5.u := ((hB.alloc (by omega) _).trans (m4.h.mono (by omega))).trans (m5.h.mono (by omega))
        go_roundw
        case rel => exact ⟨0 + 1, hlt, by go_num, by rw [HS.out]; unfold nearStep; rw [if_pos (by dsimp only; omega)]; rfl, hBn⟩
        case measure => simp [intOf]; omega
      · obtain rfl : k = l.length := by omega
        have hrw := rowCols_below hr hB
        have hxw : rowCols wr a0 l.length l := by
          have := rowCols_take HX.out l.length hnx
          rw [← HL.out] at this
          exact rowCols_below this (hBW.trans (hB.mono hsW))
        go_wp2_with fail
        refine (nearest_cols c hok l a1 cp _ hrw (by omega)).mono ?_
        rintro e w5 ⟨rfl, hB5⟩
        have hr5 := rowCols_below hrw hB5
        have hx5 := rowCols_below hxw hB5
        go_wp2_with fail
        refine (equal_same l a1 a0 cp cap _ hr5 hx5 (by omega)).mono ?_
        rintro e w6 ⟨rfl, hB6⟩
        have s5 := hB5.size
        go_wp2
        go_ret
        exact ⟨rfl, hBw.trans ((hB5.mono (by omega)).trans (hB6.mono (by omega)))⟩
  go_wp2_with fail
  · have hl : (xs.take 12).length = 12 := by rw [List.length_take]; omega
    have hr := rowCols_take HX.out 12 (by omega)
    have hcl := clone_any (xs.take 12) a0 cap w1 (by rw [hl]; exact hr) hnil (by omega)
    rw [hl] at hcl
    refine hcl.mono ?_
    rintro e w2 ⟨a1, cp, rfl, hr2, hB2⟩
    go_wp2
    exact key _ _ _ a1 12 cp (xs.take 12) w2 hl.symm rfl (by omega) (by omega) (by rw [hl]; exact hr2) hB2
  · refine (clone_any xs a0 cap w1 HX.out hnil (by omega)).mono ?_
    rintro e w2 ⟨a1, cp, rfl, hr2, hB2⟩
    go_wp2
    exact key _ _ _ a1 xs.length cp xs w2 rfl (List.take_length).symm (by omega) (by omega) hr2 hB2
end Go.Proofs.Ytcfollajmmlfnaa
