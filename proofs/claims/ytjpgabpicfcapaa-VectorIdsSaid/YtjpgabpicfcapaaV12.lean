/- walks: what vectors come to -/
import Derived.Test.YtjpgabpicfcapaaV11
import Derived.Defers
import Derived.WalkMore
namespace Go.Proofs.Ytjpgabpicfcapaa
open Go.RowKit

def comeL (c : Int → Int → Int) (v : V) (l : List V) : V := l.foldl (comeTo c) v

set_option maxRecDepth 4000 in
theorem close_join (v o : V) (b c : Nat) (w : World) (hv : vecIn w b v) (hc : w.cell? ⟨c, 0, none⟩ = some (fnV 43)) : Calls Try.prog 53 #[.pointer (some ⟨b, 0, none⟩), vec o, .pointer (some ⟨c, 0, none⟩)] w fun e w' => e = .returned (.tuple #[]) ∧ vecIn w' b (comeTo (fun x y : Int => max x y) v o) ∧ Below b w w' := by
  have lb := hv.lt
  have lc : c < w.heap.size := World.block_lt_of_cell? _ _ hc
  have HV := Lib.hid hv
  clear hv
  go_enter Try.func53, Try.ntmps53
  go_wp2_with fail
  refine (merge_join v o b _ (holds_alloc HV.out _)).mono ?_
  rintro e w1 ⟨rfl, hv1, hB⟩
  go_wp2
  exact ⟨rfl, _, results_none rfl _ _ _, rfl, hv1, ((Below.refl _ _).alloc (by omega) _).trans hB⟩

set_option maxRecDepth 4000 in
theorem merged_join (v : V) (l : List V) (a0 : Option Addr) (cap b c : Nat) (W0 w : World) (hr : rowVec W0 a0 l) (hmax : l.length ≤ 9223372036854775807) (h0 : Below W0.heap.size W0 w) (hb : W0.heap.size ≤ b) (hcb : c < b) (hv : vecIn w b v) (hc : w.cell? ⟨c, 0, none⟩ = some (fnV 43)) :
    Calls Try.prog 52 #[.pointer (some ⟨b, 0, none⟩), .slice a0 l.length cap, .func (.func 53) #[] #[.pointer (some ⟨c, 0, none⟩)]] w fun e w' => e = .returned (.pointer (some ⟨b, 0, none⟩)) ∧ vecIn w' b (comeL (fun x y : Int => max x y) v l) ∧ Below b w w' := by
  have lb := hv.lt
  have HR := Lib.hid hr
  have HV := Lib.hid hv
  clear hr hv
  go_enter Try.func52, Try.ntmps52
  go_wp2_with fail
  go_loopw [8, 11] (fun _ i wr => ∃ k : Nat, k ≤ l.length ∧ i = .int .i64 k ∧ ∃ u : V, vecIn wr b u ∧ comeL (fun x y : Int => max x y) v l = comeL (fun x y : Int => max x y) u (l.drop k) ∧ Below b w wr)
      (fun _ i _ => l.length - (intOf i).toNat)
  case atStart => exact ⟨0, Nat.zero_le _, rfl, v, HV.out, by simp, Below.refl _ _⟩
  case round =>
    obtain ⟨k, hk, rfl, u, hu, hS, hBg⟩ := hrel
    have HS := Lib.hid hS
    have lgr := hu.lt
    have hc1 := (hBg.cell (p := ⟨c, 0, none⟩) hcb).trans hc
    clear hS
    by_cases hlt : k < l.length
    · have hrb : rowVec wr a0 l := rowV_below HR.out (h0.trans (hBg.mono hb))
      obtain ⟨b', off, rfl, hcc⟩ := hrb.2.resolve_left (by intro e; subst e; simp at hlt)
      have d0 := hcc.2 k hlt 0 (by omega)
      have d1 := hcc.2 k hlt 1 (by omega)
      have d2 := hcc.2 k hlt 2 (by omega)
      have d3 := hcc.2 k hlt 3 (by omega)
      have d4 := hcc.2 k hlt 4 (by omega)
      have d5 := hcc.2 k hlt 5 (by omega)
      have d6 := hcc.2 k hlt 6 (by omega)
      have d7 := hcc.2 k hlt 7 (by omega)
      have d8 := hcc.2 k hlt 8 (by omega)
      simp only [vecL, List.getElem?_cons_zero, List.getElem?_cons_succ, Nat.add_zero] at d0 d1 d2 d3 d4 d5 d6 d7 d8
      have HD := Lib.hid (List.drop_eq_getElem_cons hlt)
      clear hcc hrb
      generalize l[k] = x at *
      have HU := Lib.hid hu
      clear hu
      go_wp2_with fail
      have hcA : (wr.alloc (.cells (vecA x) 24)).cell? ⟨c, 0, none⟩ = some (fnV 43) := by
        have lc1 : c < wr.heap.size := World.block_lt_of_cell? _ _ hc1
        exact (((Below.refl wr.heap.size wr).alloc (Nat.le_refl _) _).cell (p := ⟨c, 0, none⟩) lc1).trans hc1
      refine (close_join u x b c _ (holds_alloc HU.out _) hcA).mono ?_
      rintro e w2 ⟨rfl, hv2, hB2⟩
      have hC : Below b w w2 := (hBg.alloc (by omega) _).trans hB2
      go_wp2
      go_roundw
      case rel => exact ⟨k + 1, hlt, by go_num, comeTo (fun x y : Int => max x y) u x, hv2, by rw [HS.out, HD.out]; rfl, hC⟩
      case measure => simp [intOf]; omega
    · obtain rfl : k = l.length := by omega
      have HF := Lib.hid (show comeL (fun x y : Int => max x y) v l = u by rw [HS.out, List.drop_length]; rfl)
      have HU := Lib.hid hu
      clear hu
      go_wp2
      exact ⟨rfl, _, results_tmp rfl _ _ _, rfl, by rw [HF.out]; exact HU.out, hBg⟩

set_option maxRecDepth 4000 in
theorem close_meet (v o : V) (b c : Nat) (w : World) (hv : vecIn w b v) (hc : w.cell? ⟨c, 0, none⟩ = some (fnV 44)) : Calls Try.prog 53 #[.pointer (some ⟨b, 0, none⟩), vec o, .pointer (some ⟨c, 0, none⟩)] w fun e w' => e = .returned (.tuple #[]) ∧ vecIn w' b (comeTo (fun x y : Int => min x y) v o) ∧ Below b w w' := by
  have lb := hv.lt
  have lc : c < w.heap.size := World.block_lt_of_cell? _ _ hc
  have HV := Lib.hid hv
  clear hv
  go_enter Try.func53, Try.ntmps53
  go_wp2_with fail
  refine (merge_meet v o b _ (holds_alloc HV.out _)).mono ?_
  rintro e w1 ⟨rfl, hv1, hB⟩
  go_wp2
  exact ⟨rfl, _, results_none rfl _ _ _, rfl, hv1, ((Below.refl _ _).alloc (by omega) _).trans hB⟩

set_option maxRecDepth 4000 in
theorem merged_meet (v : V) (l : List V) (a0 : Option Addr) (cap b c : Nat) (W0 w : World) (hr : rowVec W0 a0 l) (hmax : l.length ≤ 9223372036854775807) (h0 : Below W0.heap.size W0 w) (hb : W0.heap.size ≤ b) (hcb : c < b) (hv : vecIn w b v) (hc : w.cell? ⟨c, 0, none⟩ = some (fnV 44)) :
    Calls Try.prog 52 #[.pointer (some ⟨b, 0, none⟩), .slice a0 l.length cap, .func (.func 53) #[] #[.pointer (some ⟨c, 0, none⟩)]] w fun e w' => e = .returned (.pointer (some ⟨b, 0, none⟩)) ∧ vecIn w' b (comeL (fun x y : Int => min x y) v l) ∧ Below b w w' := by
  have lb := hv.lt
  have HR := Lib.hid hr
  have HV := Lib.hid hv
  clear hr hv
  go_enter Try.func52, Try.ntmps52
  go_wp2_with fail
  go_loopw [8, 11] (fun _ i wr => ∃ k : Nat, k ≤ l.length ∧ i = .int .i64 k ∧ ∃ u : V, vecIn wr b u ∧ comeL (fun x y : Int => min x y) v l = comeL (fun x y : Int => min x y) u (l.drop k) ∧ Below b w wr)
      (fun _ i _ => l.length - (intOf i).toNat)
  case atStart => exact ⟨0, Nat.zero_le _, rfl, v, HV.out, by simp, Below.refl _ _⟩
  case round =>
    obtain ⟨k, hk, rfl, u, hu, hS, hBg⟩ := hrel
    have HS := Lib.hid hS
    have lgr := hu.lt
    have hc1 := (hBg.cell (p := ⟨c, 0, none⟩) hcb).trans hc
    clear hS
    by_cases hlt : k < l.length
    · have hrb : rowVec wr a0 l := rowV_below HR.out (h0.trans (hBg.mono hb))
      obtain ⟨b', off, rfl, hcc⟩ := hrb.2.resolve_left (by intro e; subst e; simp at hlt)
      have d0 := hcc.2 k hlt 0 (by omega)
      have d1 := hcc.2 k hlt 1 (by omega)
      have d2 := hcc.2 k hlt 2 (by omega)
      have d3 := hcc.2 k hlt 3 (by omega)
      have d4 := hcc.2 k hlt 4 (by omega)
      have d5 := hcc.2 k hlt 5 (by omega)
      have d6 := hcc.2 k hlt 6 (by omega)
      have d7 := hcc.2 k hlt 7 (by omega)
      have d8 := hcc.2 k hlt 8 (by omega)
      simp only [vecL, List.getElem?_cons_zero, List.getElem?_cons_succ, Nat.add_zero] at d0 d1 d2 d3 d4 d5 d6 d7 d8
      have HD := Lib.hid (List.drop_eq_getElem_cons hlt)
      clear hcc hrb
      generalize l[k] = x at *
      have HU := Lib.hid hu
      clear hu
      go_wp2_with fail
      have hcA : (wr.alloc (.cells (vecA x) 24)).cell? ⟨c, 0, none⟩ = some (fnV 44) := by
        have lc1 : c < wr.heap.size := World.block_lt_of_cell? _ _ hc1
        exact (((Below.refl wr.heap.size wr).alloc (Nat.le_refl _) _).cell (p := ⟨c, 0, none⟩) lc1).trans hc1
      refine (close_meet u x b c _ (holds_alloc HU.out _) hcA).mono ?_
      rintro e w2 ⟨rfl, hv2, hB2⟩
      have hC : Below b w w2 := (hBg.alloc (by omega) _).trans hB2
      go_wp2
      go_roundw
      case rel => exact ⟨k + 1, hlt, by go_num, comeTo (fun x y : Int => min x y) u x, hv2, by rw [HS.out, HD.out]; rfl, hC⟩
      case measure => simp [intOf]; omega
    · obtain rfl : k = l.length := by omega
      have HF := Lib.hid (show comeL (fun x y : Int => min x y) v l = u by rw [HS.out, List.drop_length]; rfl)
      have HU := Lib.hid hu
      clear hu
      go_wp2
      exact ⟨rfl, _, results_tmp rfl _ _ _, rfl, by rw [HF.out]; exact HU.out, hBg⟩
end Go.Proofs.Ytjpgabpicfcapaa
