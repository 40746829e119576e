/- The walk of VectorIds: what it stands on. -/
import Derived.Test.YtjpgabpicfcapaaM6
import Derived.Test.YtjpgabpicfcapaaM11
import Derived.Test.YtjpgabpicfcapaaV17a
namespace Go.Proofs.Ytjpgabpicfcapaa
open Go.RowKit

theorem with_one (v : V) (rv : v.rng) (x : I3) (W : World) (g : Nat) (h : blockIs W g #[.int .u64 x.t, .int .i64 x.s, .int .u64 x.q] 29) :
    Calls Try.prog 14 #[vec v, .slice (some ⟨g, 0, none⟩) 1 1] W fun e w' => e = .returned (.tuple #[vec (withR v [x]).1, .int .i64 (withR v [x]).2]) ∧ Below W.heap.size W w' :=
  with_any v rv [x] (some ⟨g, 0, none⟩) 1 W (row_block_one W g x h) (by simp)
theorem refWith_one (v : V) (rv : v.rng) (x : I3) (W : World) (g : Nat) (h : blockIs W g #[.int .u64 x.t, .int .i64 x.s, .int .u64 x.q] 29) :
    Calls Try.prog 15 #[vec v, .slice (some ⟨g, 0, none⟩) 1 1] W fun e w' => e = .returned (.tuple #[vec (withR v [x]).1, .int .i64 (withR v [x]).2]) ∧ Below W.heap.size W w' :=
  refWith_any v rv [x] (some ⟨g, 0, none⟩) 1 W (row_block_one W g x h) (by simp)
theorem cloneI_len (l : List I3) (a0 : Option Addr) (c m : Nat) (hm : l.length = m) (w : World) (h : rowV w a0 l.length 3 enI l) (hc : a0 = none → c = 0) (hlen : l.length ≤ 1000000) :
    Calls Try.prog 8 #[.slice a0 m c] w fun e w' => ∃ a1 cap, e = .returned (.slice a1 l.length cap) ∧ rowV w' a1 l.length 3 enI l ∧ (a1 = none → cap = 0) ∧ Below w.heap.size w w' := by
  subst hm
  cases a0 with
  | none =>
    have hl : l = [] := by
      rcases h.2 with e | ⟨b, off, e, _⟩
      · exact e
      · cases e
    subst hl
    obtain rfl := hc rfl
    exact (cloneI_none w).mono fun e w' ⟨he, hb⟩ => ⟨none, 0, he, ⟨rfl, .inl rfl⟩, fun _ => rfl, hb⟩
  | some ad => exact (cloneI_own l ad c w h hlen).mono fun e w' ⟨g, cap, he, _, hi, hb⟩ => ⟨some ⟨g, 0, none⟩, cap, he, ids_row hi, (fun e => by cases e), hb⟩
theorem has_is {v : V} {i : I3} (hv : v.may = true) (h : i.may = true) : hasB v i = decide (i.q ≤ v i.s.toNat) := by unfold hasB; rw [hv, h]; rfl
theorem next_is {v : V} {i : I3} (hv : v.may = true) (h : i.may = true) : nextB v i = (i.q == v i.s.toNat + 1) := by unfold nextB; rw [hv, h]; rfl
theorem has_no {v : V} {i : I3} (h : v.may = false ∨ i.may = false) : hasB v i = false ∧ nextB v i = false := by
  unfold hasB nextB
  rcases h with h | h <;> rw [h] <;> cases v.may <;> cases i.may <;> exact ⟨rfl, rfl⟩
end Go.Proofs.Ytjpgabpicfcapaa
