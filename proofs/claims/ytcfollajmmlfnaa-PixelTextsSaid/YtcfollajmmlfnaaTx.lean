/- PixelTexts, walked -/
import Derived.Test.YtcfollajmmlfnaaR6
import Derived.Test.YtcfollajmmlfnaaRa
import Derived.Test.YtcfollajmmlfnaaRow
namespace Go.Proofs.Ytcfollajmmlfnaa
open Go.RowKit

abbrev enW (x : Int) : List Value := [.int .u32 x]
abbrev enS (s : ByteArray) : List Value := [.string s]

set_option maxRecDepth 20000 in
set_option maxHeartbeats 4000000 in
theorem textslaw_any (cs : List C4) (a0 a1 a2 : Option Addr) (c0 c1 c2 : Nat) (ws : List Int) (ss : List ByteArray) (w : World) (hc : rowCols w a0 cs.length cs) (hw : rowV w a1 ws.length 1 enW ws) (hwok : ∀ x ∈ ws, 0 ≤ x ∧ x ≤ 4294967295)
    (hs : rowV w a2 ss.length 1 enS ss) (m0 : cs.length ≤ maxLen) (m1 : ws.length ≤ maxLen) (m2 : ss.length ≤ maxLen) :
    Calls Try.prog 5 #[.slice a0 cs.length c0, .slice a1 ws.length c1, .slice a2 ss.length c2] w fun e w' => e = .returned (.bool true) ∧ Below w.heap.size w w' := by
  have hmax' : maxLen ≤ 9223372036854775807 := by decide
  go_enter Try.func5, Try.ntmps5
  go_wp2_with fail
  refine (wakes_any _).mono ?_
  rintro e w1 ⟨rfl, hB1⟩
  have s1 := hB1.size
  have HC := Lib.hid (rowCols_below hc hB1)
  have HW := Lib.hid (rowV_below hw hB1)
  have HS := Lib.hid (rowV_below hs hB1)
  clear hc hw hs
  go_wp2_with fail
  go_loopw [7, 8, 21] (fun _ _ i wr => ∃ k : Nat, k ≤ cs.length ∧ i = .int .i64 k ∧ Below w1.heap.size w1 wr)
    (fun _ _ i _ => cs.length - (intOf i).toNat)
  case atStart => exact ⟨0, Nat.zero_le _, rfl, Below.refl _ _⟩
  case round =>
    obtain ⟨k, hk, rfl, hB⟩ := hrel
    have hsr := hB.size
    by_cases hlt : k < cs.length
    · have hne : cs ≠ [] := by intro e; subst e; simp at hlt
      have hr := rowCols_below HC.out hB
      obtain ⟨b, off, rfl, hb, hc⟩ := hr.2.2.resolve_left hne
      clear hne
      obtain ⟨d0, d1, d2, d3⟩ := hc k hlt
      have hok := hr.2.1 _ (List.getElem_mem hlt)
      clear hr hc
      generalize cs[k] = x at *
      have hn := @near_cell (wr.heap.size + 1)
      by_cases h12 : k < 12
      · have hd : decide ((k : Int) < 12) = true := by simp; omega
        go_wp2_with fail
        refine wp_region_dep (wr.heap.size + 1) 16 (by kernel_rfl) (by kernel_rfl) (by rfl) (by simp) ?_
        simp only [List.take_succ_cons, List.take_zero, List.drop_succ_cons, List.drop_zero]
        iterate 4 (refine wpDep_plain (by rfl) (fun K hK => ?_); go_simp; (refine hK _ ?_; clear hK K))
        refine wpDep_plain (by rfl) (fun K hK => ?_); go_simp; refine ⟨_, fun n => callsTo_of (pack_any _ x hok), ?_⟩; (refine hK _ ?_; clear hK K)
        iterate 1 (refine wpDep_plain (by rfl) (fun K hK => ?_); go_simp; (refine hK _ ?_; clear hK K))
        refine wpDep_plain (by rfl) (fun K hK => ?_); go_simp; refine ⟨_, fun n => callsTo_of (rpack_any x hok _), ?_⟩; (refine hK _ ?_; clear hK K)
        iterate 3 (refine wpDep_plain (by rfl) (fun K hK => ?_); go_simp; (refine hK _ ?_; clear hK K))
        refine wpDep_plain (by rfl) (fun K hK => ?_); go_simp; refine ⟨_, fun n => callsTo_of (text_any x hok _), ?_⟩; (refine hK _ ?_; clear hK K)
        iterate 1 (refine wpDep_plain (by rfl) (fun K hK => ?_); go_simp; (refine hK _ ?_; clear hK K))
        refine wpDep_plain (by rfl) (fun K hK => ?_); go_simp; refine ⟨_, fun n => callsTo_of (rtext_any x hok _), ?_⟩; (refine hK _ ?_; clear hK K)
        iterate 3 (refine wpDep_plain (by rfl) (fun K hK => ?_); go_simp; (refine hK _ ?_; clear hK K))
        refine wpDep_nil ?_
        intro f m _
        simp only [fillV]
        go_wp2
        go_roundw
        case rel => exact ⟨k + 1, hlt, by go_num, (hB.alloc hsr _).trans (m.h.mono (by omega))⟩
        case measure => simp [intOf]; omega
      · have hd : decide ((k : Int) < 12) = false := by simp; omega
        go_wp2_with fail
        refine wp_region_dep (wr.heap.size + 1) 16 (by kernel_rfl) (by kernel_rfl) (by rfl) (by simp) ?_
        simp only [List.take_succ_cons, List.take_zero, List.drop_succ_cons, List.drop_zero]
        iterate 16 (refine wpDep_plain (by rfl) (fun K hK => ?_); go_simp; (refine hK _ ?_; clear hK K))
        refine wpDep_nil ?_
        intro f m _
        simp only [fillV]
        go_wp2
        go_roundw
        case rel => exact ⟨k + 1, hlt, by go_num, (hB.alloc hsr _).trans (m.h.mono (by omega))⟩
        case measure => simp [intOf]; omega
    · have hdk : decide ((k : Int) < (cs.length : Int)) = false := by simp; omega
      obtain rfl : k = cs.length := by omega
      obtain ⟨w2, hw2⟩ : ∃ w2 : World, w2 = wr := ⟨_, rfl⟩
      subst hw2
      have HW2 := Lib.hid (rowV_below HW.out hB)
      have HS2 := Lib.hid (rowV_below HS.out hB)
      go_wp2_with fail
      go_loopw [9, 10, 45] (fun _ _ i wr => ∃ k : Nat, k ≤ ws.length ∧ i = .int .i64 k ∧ Below w2.heap.size w2 wr)
        (fun _ _ i _ => ws.length - (intOf i).toNat)
      case atStart => exact ⟨0, Nat.zero_le _, rfl, Below.refl _ _⟩
      case round =>
        obtain ⟨k, hk2, rfl, hB2⟩ := hrel
        have hsr2 := hB2.size
        by_cases hlt : k < ws.length
        · have hne : ws ≠ [] := by intro e; subst e; simp at hlt
          obtain ⟨b, off, rfl, hb, hc⟩ := (rowV_below HW2.out hB2).2.resolve_left hne
          clear hne
          have d0 := hc k hlt 0 (by omega)
          simp only [Nat.mul_one, Nat.add_zero, enW, List.getElem?_cons_zero] at d0
          have hok := hwok _ (List.getElem_mem hlt)
          clear hc hwok
          generalize ws[k] = x at *
          by_cases h12 : k < 12
          · have hd : decide ((k : Int) < 12) = true := by simp; omega
            go_wp2_with fail
            refine (unpack_any _ x hok.1 hok.2).mono ?_
            rintro e w3 ⟨rfl, hB3⟩
            go_wp2_with fail
            refine (rpack_any (unword x) (unword_ok x hok.1 hok.2) _).mono ?_
            rintro e w4 ⟨rfl, hB4⟩
            have hwb := word_unword x hok.1 hok.2
            go_wp2
            go_roundw
            case rel => exact ⟨k + 1, hlt, by go_num, (hB2.trans (hB3.mono hsr2)).trans (hB4.mono (by have := hB3.size; omega))⟩
            case measure => simp [intOf]; omega
          · have hd : decide ((k : Int) < 12) = false := by simp; omega
            go_wp2
            go_roundw
            case rel => exact ⟨k + 1, hlt, by go_num, hB2⟩
            case measure => simp [intOf]; omega
        · have hdk : decide ((k : Int) < (ws.length : Int)) = false := by simp; omega
          obtain rfl : k = ws.length := by omega
          obtain ⟨w3, hw3⟩ : ∃ w3 : World, w3 = wr := ⟨_, rfl⟩
          subst hw3
          have HS3 := Lib.hid (rowV_below HS2.out hB2)
          have hBw : Below w.heap.size w w3 := hB1.trans ((hB.mono s1).trans (hB2.mono (by omega)))
          go_wp2_with fail
          go_loopw [11, 12, 13, 14, 15, 16, 62] (fun _ _ _ _ _ _ i wr => ∃ k : Nat, k ≤ ss.length ∧ i = .int .i64 k ∧ Below w3.heap.size w3 wr)
            (fun _ _ _ _ _ _ i _ => ss.length - (intOf i).toNat)
          case atStart => exact ⟨0, Nat.zero_le _, rfl, Below.refl _ _⟩
          case round =>
            obtain ⟨k, hk3, rfl, hB3⟩ := hrel
            have hsr3 := hB3.size
            have hBr := hBw.trans (hB3.mono (by omega))
            by_cases hlt : k < ss.length
            · have hne : ss ≠ [] := by intro e; subst e; simp at hlt
              obtain ⟨b, off, rfl, hb, hc⟩ := (rowV_below HS3.out hB3).2.resolve_left hne
              clear hne
              have d0 := hc k hlt 0 (by omega)
              simp only [Nat.mul_one, Nat.add_zero, enS, List.getElem?_cons_zero] at d0
              clear hc
              generalize ss[k] = s at *
              by_cases h12 : k = 12
              · subst h12
                go_wp2
                go_ret
                exact ⟨rfl, hBr⟩
              · have h12' : ((k : Int) == 12) = false := by simp; omega
                go_wp2_with fail
                refine (read_any s _).mono ?_
                rintro e w5 ⟨he, hB5⟩
                unfold readsAs at he
                cases hv : (if s.size = 8 then wordUp s 8 else none) with
                | some x =>
                  rw [hv] at he
                  obtain rfl : e = .returned (.tuple #[(unword x).val, .int .i64 0]) := he
                  have HV := Lib.hid hv
                  clear hv
                  have hng := neq_self (unword x)
                  go_wp2_with fail
                  refine (rread_any s _).mono ?_
                  rintro e w6 ⟨he2, hB6⟩
                  unfold rreadsAs at he2
                  rw [HV.out] at he2
                  obtain rfl : e = .returned (.tuple #[(unword x).val, .bool true]) := he2
                  have l6 := hB6.size
                  simp only [World.size_alloc] at l6
                  have l5 : w5.heap.size < w6.heap.size := by omega
                  have g0 := (hB6.cell (p := ⟨w5.heap.size, 0, none⟩) (by simp))
                  have g1 := (hB6.cell (p := ⟨w5.heap.size, 1, none⟩) (by simp))
                  have g2 := (hB6.cell (p := ⟨w5.heap.size, 2, none⟩) (by simp))
                  have g3 := (hB6.cell (p := ⟨w5.heap.size, 3, none⟩) (by simp))
                  simp [go_sem] at g0 g1 g2 g3
                  have hB7 : Below w3.heap.size w3 w6 := ((hB3.trans (hB5.mono hsr3)).alloc (by have := hB5.size; omega) _).trans (hB6.mono (by have := hB5.size; simp; omega))
                  clear hB6 hB5
                  go_wp2
                  go_roundw
                  case rel => exact ⟨k + 1, hlt, by go_num, hB7.alloc (by have := hB7.size; omega) _⟩
                  case measure => simp [intOf]; omega
                | none =>
                  rw [hv] at he
                  obtain rfl : e = .returned (.tuple #[col 0 0 0 0, .int .i64 130]) := he
                  have HV := Lib.hid hv
                  clear hv
                  have hng := neq_self ⟨0, 0, 0, 0⟩
                  go_wp2_with fail
                  refine (rread_any s _).mono ?_
                  rintro e w6 ⟨he2, hB6⟩
                  unfold rreadsAs at he2
                  rw [HV.out] at he2
                  obtain rfl : e = .returned (.tuple #[col 0 0 0 0, .bool false]) := he2
                  have l6 := hB6.size
                  simp only [World.size_alloc] at l6
                  have l5 : w5.heap.size < w6.heap.size := by omega
                  have g0 := (hB6.cell (p := ⟨w5.heap.size, 0, none⟩) (by simp))
                  have g1 := (hB6.cell (p := ⟨w5.heap.size, 1, none⟩) (by simp))
                  have g2 := (hB6.cell (p := ⟨w5.heap.size, 2, none⟩) (by simp))
                  have g3 := (hB6.cell (p := ⟨w5.heap.size, 3, none⟩) (by simp))
                  simp [go_sem] at g0 g1 g2 g3
                  have hB7 : Below w3.heap.size w3 w6 := ((hB3.trans (hB5.mono hsr3)).alloc (by have := hB5.size; omega) _).trans (hB6.mono (by have := hB5.size; simp; omega))
                  clear hB6 hB5
                  go_wp2
                  go_roundw
                  case rel => exact ⟨k + 1, hlt, by go_num, hB7.alloc (by have := hB7.size; omega) _⟩
                  case measure => simp [intOf]; omega
            · go_wp2
              go_ret
              exact ⟨rfl, hBr⟩
end Go.Proofs.Ytcfollajmmlfnaa
