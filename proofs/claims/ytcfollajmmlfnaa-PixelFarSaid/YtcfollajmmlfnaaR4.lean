/- slices.Equal of two slices that hold the same colours -/
import Derived.RegionTactic
import Derived.ChangeAlike
import Derived.Test.YtcfollajmmlfnaaHm
import Derived.Test.YtcfollajmmlfnaaSl
namespace Go.Proofs.Ytcfollajmmlfnaa
open Go.RowKit

set_option maxHeartbeats 2000000 in
theorem equal_same (l : List C4) (a1 a2 : Option Addr) (c1 c2 : Nat) (w : World) (h1 : rowCols w a1 l.length l) (h2 : rowCols w a2 l.length l) (hlen : l.length ≤ maxLen) :
    Calls Try.prog 16 #[.slice a1 l.length c1, .slice a2 l.length c2] w fun e w' => e = .returned (.bool true) ∧ Below w.heap.size w w' := by
  have hmax : l.length ≤ 9223372036854775807 := by have : maxLen ≤ 9223372036854775807 := by decide
                                                   omega
  have r1 := h1.2.2
  have r2 := h2.2.2
  clear h1 h2 hlen
  go_enter Try.func16, Try.ntmps16
  go_wp2
  go_loopw [5, 13] (fun _ i wr => ∃ k : Nat, k ≤ l.length ∧ i = .int .i64 k ∧ Below w.heap.size w wr)
    (fun _ i _ => l.length - (intOf i).toNat)
  case atStart => exact ⟨0, Nat.zero_le _, rfl, Below.refl _ _⟩
  case round =>
    obtain ⟨k, hk, rfl, hB⟩ := hrel
    by_cases hlt : k < l.length
    · have hne : l ≠ [] := by intro e; subst e; simp at hlt
      obtain ⟨b, off, rfl, hc⟩ := r1.resolve_left hne
      obtain ⟨b', off', rfl, hc'⟩ := r2.resolve_left hne
      obtain ⟨d0, d1, d2, d3⟩ := hc.2 k hlt
      obtain ⟨f0, f1, f2, f3⟩ := hc'.2 k hlt
      have d0 := (hB.cell (p := ⟨b, _, none⟩) hc.1).trans d0
      have d1 := (hB.cell (p := ⟨b, _, none⟩) hc.1).trans d1
      have d2 := (hB.cell (p := ⟨b, _, none⟩) hc.1).trans d2
      have d3 := (hB.cell (p := ⟨b, _, none⟩) hc.1).trans d3
      have f0 := (hB.cell (p := ⟨b', _, none⟩) hc'.1).trans f0
      have f1 := (hB.cell (p := ⟨b', _, none⟩) hc'.1).trans f1
      have f2 := (hB.cell (p := ⟨b', _, none⟩) hc'.1).trans f2
      have f3 := (hB.cell (p := ⟨b', _, none⟩) hc'.1).trans f3
      clear hc hc' r1 r2 hne
      generalize l[k] = x at *
      have hneq := neq_self x
      go_wp2
      go_region
      go_wp2
      go_roundw
      case rel => exact ⟨k + 1, hlt, by go_num, ⟨hB.os, hB.tape, hB.output, hB.size, hB.block⟩⟩
      case measure => simp [intOf]; omega
    · obtain rfl : k = l.length := by omega
      go_wp2
      go_ret
      exact ⟨rfl, hB⟩
end Go.Proofs.Ytcfollajmmlfnaa
