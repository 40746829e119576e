/- walks: rows of vectors; which ids a vector has -/
import Derived.Test.YtjpgabpicfcapaaV1
import Derived.Deep.Cut
namespace Go.Proofs.Ytjpgabpicfcapaa
open Go.RowKit

abbrev rowVec (w : World) (a0 : Option Addr) (l : List V) : Prop := rowV w a0 l.length 9 vecL l
def allMay (l : List V) : Bool := l.all V.may
theorem vecL_at (v : V) (j : Nat) (h : j < 9) : (vecL v)[j]? = some (.int .u64 (v j)) := by
  rw [List.getElem?_eq_getElem (by rw [vecL_len]; exact h), vecL_get v j h]
theorem row_cells {w : World} {b off : Nat} {l : List V} (h : rowsAt w b off 9 vecL l) (k : Nat) (hk : k < l.length) (j : Nat) (hj : j < 9) : w.cell? ⟨b, off + k * 9 + j, none⟩ = some (.int .u64 (l[k] j)) := by
  rw [h.2 k hk j hj, vecL_at _ _ hj]

set_option maxHeartbeats 1000000 in
theorem are_any (l : List V) (a0 : Option Addr) (cap : Nat) (w : World) (h : rowVec w a0 l) (hmax : l.length ≤ 9223372036854775807) :
    Calls Try.prog 34 #[.slice a0 l.length cap] w fun e w' => e = .returned (.bool (allMay l)) ∧ Below w.heap.size w w' := by
  have HR := Lib.hid h
  clear h
  go_enter Try.func34, Try.ntmps34
  go_wp2
  go_loopw [4, 7] (fun _ i wr => ∃ k : Nat, k ≤ l.length ∧ i = .int .i64 k ∧ (∀ j (h : j < l.length), j < k → l[j].may = true) ∧ Below w.heap.size w wr)
    (fun _ i _ => l.length - (intOf i).toNat)
  case atStart => exact ⟨0, Nat.zero_le _, rfl, fun j _ hj => by omega, Below.refl _ _⟩
  case round =>
    obtain ⟨k, hk, rfl, hall, hB⟩ := hrel
    have hs := hB.size
    by_cases hlt : k < l.length
    · obtain ⟨b, off, rfl, hc⟩ := (rowV_below HR.out hB).2.resolve_left (by intro e; subst e; simp at hlt)
      have hc0 := row_cells hc k hlt
      have d0 := hc0 0 (by omega)
      have d1 := hc0 1 (by omega)
      have d2 := hc0 2 (by omega)
      have d3 := hc0 3 (by omega)
      have d4 := hc0 4 (by omega)
      have d5 := hc0 5 (by omega)
      have d6 := hc0 6 (by omega)
      have d7 := hc0 7 (by omega)
      have d8 := hc0 8 (by omega)
      simp only [Nat.add_zero] at d0
      have HA := Lib.hid hall
      have hx : l[k] = l[k] := rfl
      clear hc hc0 hall
      generalize hv : l[k] = v at d0 d1 d2 d3 d4 d5 d6 d7 d8
      clear hx
      cases hm : v.may with
      | true =>
        have HM := Lib.hid hm
        have HV := Lib.hid hv
        clear hm hv
        go_wp2_with fail
        refine (check_any v _).mono ?_
        rintro e w2 ⟨rfl, hB2⟩
        rw [HM.out]
        simp only [errOr]
        go_wp2
        go_roundw
        case rel => exact ⟨k + 1, hlt, by go_num, fun j h hj => by
          by_cases e : j = k
          · subst e; rw [HV.out]; exact HM.out
          · exact HA.out j h (by omega), (hB.alloc hs _).trans (hB2.mono (by simp; omega))⟩
        case measure => simp [intOf]; omega
      | false =>
        have HM := Lib.hid hm
        have HN := Lib.hid (show allMay l = false by
          unfold allMay
          rw [← Bool.not_eq_true, List.all_eq_true]
          intro hall
          have := hall _ (List.getElem_mem hlt)
          rw [hv, hm] at this; cases this)
        clear hm hv
        go_wp2_with fail
        refine (check_any v _).mono ?_
        rintro e w2 ⟨rfl, hB2⟩
        rw [HM.out]
        simp only [errOr]
        go_wp2
        go_ret
        exact ⟨by rw [HN.out]; rfl, (hB.alloc hs _).trans (hB2.mono (by simp; omega))⟩
    · obtain rfl : k = l.length := by omega
      have HY := Lib.hid (show allMay l = true by
        unfold allMay
        rw [List.all_eq_true]
        intro x hx
        obtain ⟨j, hj, rfl⟩ := List.getElem_of_mem hx
        exact hall j hj hj)
      go_wp2
      go_ret
      exact ⟨by rw [HY.out]; rfl, hB⟩

/-- one, or two, that were just laid -/
theorem row_one (v : V) (w : World) : rowVec (w.alloc (.cells (vecA v) 24)) (some ⟨w.heap.size, 0, none⟩) [v] := by
  refine ⟨rfl, .inr ⟨w.heap.size, 0, rfl, by simp, fun k hk j hj => ?_⟩⟩
  obtain rfl : k = 0 := by simpa using hk
  have := (vecIn_new w v).at j hj
  simp only [Nat.zero_mul, Nat.zero_add]
  rw [this]
  exact (vecL_at v j hj).symm
end Go.Proofs.Ytjpgabpicfcapaa
