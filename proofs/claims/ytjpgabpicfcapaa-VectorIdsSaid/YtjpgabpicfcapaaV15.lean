/- walks: slices.Equal at stretches, at ids; the laws' own id -/
import Derived.RegionTactic
import Derived.Test.YtjpgabpicfcapaaV14
namespace Go.Proofs.Ytjpgabpicfcapaa
open Go.RowKit

theorem neqS_self (x : S3) (w : World) : (binOp .neq 51 (.agg #[.int .i64 x.s, .int .u64 x.f, .int .u64 x.t]) (.agg #[.int .i64 x.s, .int .u64 x.f, .int .u64 x.t])).run Try.prog w = .ok (.bool false) w := by
  simp [go_sem]
theorem neqI_self (x : I3) (w : World) : (binOp .neq 29 (.agg #[.int .u64 x.t, .int .i64 x.s, .int .u64 x.q]) (.agg #[.int .u64 x.t, .int .i64 x.s, .int .u64 x.q])).run Try.prog w = .ok (.bool false) w := by
  simp [go_sem]

set_option maxHeartbeats 2000000 in
theorem equalS_same (l : List S3) (a1 a2 : Option Addr) (c1 c2 : Nat) (w : World) (h1 : rowV w a1 l.length 3 enT l) (h2 : rowV w a2 l.length 3 enT l) (hmax : l.length ≤ 9223372036854775807) :
    Calls Try.prog 27 #[.slice a1 l.length c1, .slice a2 l.length c2] w fun e w' => e = .returned (.bool true) ∧ Below w.heap.size w w' := by
  have r1 := h1.2
  have r2 := h2.2
  clear h1 h2
  go_enter Try.func27, Try.ntmps27
  go_wp2
  go_loopw [5, 13] (fun _ i wr => ∃ k : Nat, k ≤ l.length ∧ i = .int .i64 k ∧ Below w.heap.size w wr)
    (fun _ i _ => l.length - (intOf i).toNat)
  case atStart => exact ⟨0, Nat.zero_le _, rfl, Below.refl _ _⟩
  case round =>
    obtain ⟨k, hk, rfl, hB⟩ := hrel
    by_cases hlt : k < l.length
    · have hne : l ≠ [] := by intro e; subst e; simp at hlt
      obtain ⟨b, off, rfl, hc⟩ := r1.resolve_left hne
      obtain ⟨b', off', rfl, hc'⟩ := r2.resolve_left hne
      have d0 := (hB.cell (p := ⟨b, _, none⟩) hc.1).trans (hc.2 k hlt 0 (by omega))
      have f0 := (hB.cell (p := ⟨b', _, none⟩) hc'.1).trans (hc'.2 k hlt 0 (by omega))
      have d1 := (hB.cell (p := ⟨b, _, none⟩) hc.1).trans (hc.2 k hlt 1 (by omega))
      have f1 := (hB.cell (p := ⟨b', _, none⟩) hc'.1).trans (hc'.2 k hlt 1 (by omega))
      have d2 := (hB.cell (p := ⟨b, _, none⟩) hc.1).trans (hc.2 k hlt 2 (by omega))
      have f2 := (hB.cell (p := ⟨b', _, none⟩) hc'.1).trans (hc'.2 k hlt 2 (by omega))
      simp only [enT, List.getElem?_cons_zero, List.getElem?_cons_succ, Nat.add_zero] at d0 f0 d1 f1 d2 f2
      clear hc hc' r1 r2 hne
      generalize l[k] = x at *
      have hneq := neqS_self x
      go_wp2
      go_region
      go_wp2
      go_roundw
      case rel => exact ⟨k + 1, hlt, by go_num, ⟨hB.os, hB.tape, hB.output, hB.size, hB.block⟩⟩
      case measure => simp [intOf]; omega
    · obtain rfl : k = l.length := by omega
      go_wp2
      go_ret
      exact ⟨rfl, hB⟩

set_option maxHeartbeats 2000000 in
theorem equalI_same (l : List I3) (a1 a2 : Option Addr) (c1 c2 : Nat) (w : World) (h1 : rowV w a1 l.length 3 enI l) (h2 : rowV w a2 l.length 3 enI l) (hmax : l.length ≤ 9223372036854775807) :
    Calls Try.prog 18 #[.slice a1 l.length c1, .slice a2 l.length c2] w fun e w' => e = .returned (.bool true) ∧ Below w.heap.size w w' := by
  have r1 := h1.2
  have r2 := h2.2
  clear h1 h2
  go_enter Try.func18, Try.ntmps18
  go_wp2
  go_loopw [5, 13] (fun _ i wr => ∃ k : Nat, k ≤ l.length ∧ i = .int .i64 k ∧ Below w.heap.size w wr)
    (fun _ i _ => l.length - (intOf i).toNat)
  case atStart => exact ⟨0, Nat.zero_le _, rfl, Below.refl _ _⟩
  case round =>
    obtain ⟨k, hk, rfl, hB⟩ := hrel
    by_cases hlt : k < l.length
    · have hne : l ≠ [] := by intro e; subst e; simp at hlt
      obtain ⟨b, off, rfl, hc⟩ := r1.resolve_left hne
      obtain ⟨b', off', rfl, hc'⟩ := r2.resolve_left hne
      have d0 := (hB.cell (p := ⟨b, _, none⟩) hc.1).trans (hc.2 k hlt 0 (by omega))
      have f0 := (hB.cell (p := ⟨b', _, none⟩) hc'.1).trans (hc'.2 k hlt 0 (by omega))
      have d1 := (hB.cell (p := ⟨b, _, none⟩) hc.1).trans (hc.2 k hlt 1 (by omega))
      have f1 := (hB.cell (p := ⟨b', _, none⟩) hc'.1).trans (hc'.2 k hlt 1 (by omega))
      have d2 := (hB.cell (p := ⟨b, _, none⟩) hc.1).trans (hc.2 k hlt 2 (by omega))
      have f2 := (hB.cell (p := ⟨b', _, none⟩) hc'.1).trans (hc'.2 k hlt 2 (by omega))
      simp only [enI, List.getElem?_cons_zero, List.getElem?_cons_succ, Nat.add_zero] at d0 f0 d1 f1 d2 f2
      clear hc hc' r1 r2 hne
      generalize l[k] = x at *
      have hneq := neqI_self x
      go_wp2
      go_region
      go_wp2
      go_roundw
      case rel => exact ⟨k + 1, hlt, by go_num, ⟨hB.os, hB.tape, hB.output, hB.size, hB.block⟩⟩
      case measure => simp [intOf]; omega
    · obtain rfl : k = l.length := by omega
      go_wp2
      go_ret
      exact ⟨rfl, hB⟩

theorem id_any (s q : Int) (w : World) : Calls Try.prog 32 #[.int .i64 s, .int .u64 q] w fun e w' => e = .returned (I3.val ⟨9, s, q⟩) ∧ Below w.heap.size w w' := by
  go_enter Try.func32, Try.ntmps32
  go_wp2
  refine ⟨rfl, I3.val ⟨9, s, q⟩, ?_, rfl, ?_⟩
  · simp [results, Try.results32, go_sem]
  · first
      | exact (Below.refl _ _).alloc (Nat.le_refl _) _
      | exact ((((Below.refl _ _).alloc (Nat.le_refl _) _).setCell (p := ⟨w.heap.size, 0, none⟩) (Nat.le_refl _) _).setCell (p := ⟨w.heap.size, 1, none⟩) (Nat.le_refl _) _).setCell (p := ⟨w.heap.size, 2, none⟩) (Nat.le_refl _) _
theorem id_exact (s q : Int) (w : World) : Calls Try.prog 32 #[.int .i64 s, .int .u64 q] w fun e w' => e = .returned (I3.val ⟨9, s, q⟩) ∧ w.alloc (.cells #[.int .u64 9, .int .i64 s, .int .u64 q] 29) = w' := by
  go_enter Try.func32, Try.ntmps32
  go_wp2
  refine ⟨rfl, I3.val ⟨9, s, q⟩, ?_, rfl, ?_⟩
  · simp [results, Try.results32, go_sem]
  · rfl
end Go.Proofs.Ytjpgabpicfcapaa
