/- The walk of VectorMeets. -/
import Derived.Test.YtjpgabpicfcapaaM2
import Derived.Test.YtjpgabpicfcapaaM3
import Derived.Test.YtjpgabpicfcapaaM4
import Derived.Test.YtjpgabpicfcapaaV17a
namespace Go.Proofs.Ytjpgabpicfcapaa
open Go.RowKit

theorem may_zero_at {v : V} (hr : v.rng) (h : v.may = true) : v 0 = 0 := by
  have h1 := ((may_spec v).1 h).1
  have h2 := (hr 0 (by omega)).1
  omega
theorem fold_come (c : Int → Int → Int) (hc : c 0 0 = 0) : ∀ (l : List V) (u v : V), (∀ k, k < 9 → u k = v k) → v 0 = 0 → (∀ x ∈ l, x 0 = 0) → ∀ k, k < 9 → foldAll c u l k = comeL c v l k
  | [], _, _, h, _, _ => h
  | x :: l, u, v, h, h0, hl => by
    have hx := hl x (List.mem_cons_self ..)
    have hstep : ∀ k, k < 9 → mergeAll c u x k = comeTo c v x k := fun k hk => by
      have e1 : mergeAll c u x k = c (u k) (x k) := by unfold mergeAll mergeTo; rw [if_pos hk]
      rw [e1, h k hk]
      by_cases e : k = 0
      · subst e; rw [come_zero, h0, hx, hc]
      · rw [come_at _ _ _ k (by omega) (by omega)]
    exact fold_come c hc l (mergeAll c u x) (comeTo c v x) hstep (by rw [come_zero]; exact h0) fun y hy => hl y (List.mem_cons_of_mem _ hy)
theorem joins_same (c : Int → Int → Int) (hc : c 0 0 = 0) {v : V} {l : List V} (rv : v.rng) (hl : ∀ u ∈ l, u.rng) (hok : (v.may && allMay l) = true) : ∃ u : V, joinR c v l = (u, 0) ∧ u.same (foldAll c v l) = true := by
  rw [Bool.and_eq_true] at hok
  refine ⟨comeL c v l, by unfold joinR; rw [if_pos (by rw [hok.1, hok.2]; rfl)], (V.same_iff _ _).2 fun k hk => (fold_come c hc l v v (fun _ _ => rfl) (may_zero_at rv hok.1) (fun x hx => may_zero_at (hl x hx) ?_) k hk).symm⟩
  have := hok.2
  unfold allMay at this
  exact List.all_eq_true.1 this x hx
theorem joins_no (c : Int → Int → Int) {v : V} {l : List V} (hok : (v.may && allMay l) = false) : joinR c v l = (V.zero, 230) := by
  unfold joinR; rw [if_neg (by rw [Bool.and_comm, hok]; simp)]

def isRowS (ls : List S3) (x : Value) (W : World) : Prop := ∃ a0 cap, x = .slice a0 ls.length cap ∧ rowV W a0 ls.length 3 enT ls
theorem isRowS_stays (ls : List S3) (x : Value) : Stays (isRowS ls x) := fun _ _ hk ⟨a0, cap, e, hr⟩ => ⟨a0, cap, e, rowV_below hr hk⟩
theorem cloneV_len (l : List V) (a0 : Option Addr) (c m : Nat) (hm : l.length = m) (w : World) (h : rowVec w a0 l) (hc : a0 = none → c = 0) (hlen : l.length ≤ 1000000) :
    Calls Try.prog 19 #[.slice a0 m c] w fun e w' => ∃ a1 cap, e = .returned (.slice a1 l.length cap) ∧ rowVec w' a1 l ∧ Below w.heap.size w w' := by
  subst hm; exact cloneV_any l a0 c w h hc hlen

end Go.Proofs.Ytjpgabpicfcapaa
