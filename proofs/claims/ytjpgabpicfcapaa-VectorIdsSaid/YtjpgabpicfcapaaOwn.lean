/- Rows of the call's own: they stay while their block does; as slices of what they hold. No condition. -/
import Derived.Test.YtjpgabpicfcapaaArr
import Derived.Test.YtjpgabpicfcapaaRow
import Derived.Test.YtjpgabpicfcapaaDep3
import Derived.Deep.AppendLies
import Derived.RangeFuncFrom
namespace Go.Proofs.Ytjpgabpicfcapaa
open Go.RowKit

theorem owns_at {w w' : World} {base e size n : Nat} {v : Value} {xs : List Value} (h : w.ownsRow base e size v n xs) (hk : ∀ q, v.ownBlock = some q → w'.heap[q]? = w.heap[q]?) : w'.ownsRow base e size v n xs := by
  refine ⟨h.1, ?_⟩
  rcases h.2 with x | ⟨g, cap, cur, h1, h2, h3, h4⟩
  · exact .inl x
  · refine .inr ⟨g, cap, cur, h1, h2, ?_, h4⟩
    rw [hk g (by rw [h1]; rfl)]
    exact h3
theorem owns_lt {w : World} {base e size n : Nat} {v : Value} {xs : List Value} (h : w.ownsRow base e size v n xs) : ∀ g, v.ownBlock = some g → base ≤ g ∧ g < w.heap.size ∧ ∃ o : Obj, w.heap[g]? = some o ∧ o.isCells = true := by
  intro g hg
  rcases h.2 with ⟨x, _⟩ | ⟨g', cap, cur, h1, h2, h3, h4⟩
  · subst x; cases hg
  · subst h1; obtain rfl : g' = g := by simpa [Value.ownBlock] using hg
    exact ⟨h2, (Array.getElem?_eq_some_iff.1 h3).1, _, h3, rfl⟩
theorem owns_below {w w' : World} {base e size n : Nat} {v : Value} {xs : List Value} (h : w.ownsRow base e size v n xs) (hb : Below w.heap.size w w') : w'.ownsRow base e size v n xs :=
  owns_at h fun q hq => hb.block q (owns_lt h q hq).2.1
theorem owns_set {w : World} {base e size n b o : Nat} {v : Value} {xs : List Value} (x : Value) (h : w.ownsRow base e size v n xs) (hb : b < base) : (w.setCell ⟨b, o, none⟩ x).ownsRow base e size v n xs :=
  owns_at h fun q hq => Below.heap_setCell _ _ _ _ (by have := (owns_lt h q hq).1; intro e; dsimp only at e; omega)
theorem owns_nil (w : World) (base e size : Nat) : w.ownsRow base e size (.slice none 0 0) 0 [] := ⟨by simp, .inl ⟨rfl, rfl⟩⟩
theorem owns_own {base e size n : Nat} {v : Value} {xs : List Value} {A B : World} {row : Option Nat} (h : A.ownsRow base e size v n xs) (hg : A.grownBy B row) (hr : ∀ r, row = some r → ∃ o : Obj, A.heap[r]? = some o ∧ o.isCells = false) : B.ownsRow base e size v n xs :=
  owns_at h fun q hq => by
    obtain ⟨_, hlt, o, ho, hc⟩ := owns_lt h q hq
    refine hg.block q hlt fun e => ?_
    obtain ⟨o', ho', hc'⟩ := hr q e.symm
    rw [ho] at ho'
    obtain rfl := Option.some.inj ho'
    rw [hc] at hc'; cases hc'

/-- a block of just these cells -/
def blockIs (w : World) (g : Nat) (cs : Array Value) (t : TypeId) : Prop := w.heap[g]? = some (.cells cs t (0, 0))
theorem blockIs_new (w : World) (cs : Array Value) (t : TypeId) : blockIs (w.alloc (.cells cs t)) w.heap.size cs t := heap_alloc_new _ _
theorem blockIs_keep {M : Nat → Prop} {w w' : World} {g : Nat} {cs : Array Value} {t : TypeId} (h : blockIs w g cs t) (hk : Wild.Keep M w.heap.size w w') (hM : ¬ M g) : blockIs w' g cs t := by
  unfold blockIs at *
  rw [hk.block g (Array.getElem?_eq_some_iff.1 h).1 hM]
  exact h
theorem keepsOthers_keep {M : Nat → Prop} {W W' : World} (h : Wild.Keep M W.heap.size W W') (hM : ∀ k, M k → ∃ o : Obj, W.heap[k]? = some o ∧ o.isCells = true) : KeepsOthers W W' :=
  ⟨h.size, fun k o hk hc => by
    rw [h.block k (Array.getElem?_eq_some_iff.1 hk).1 fun hm => by
      obtain ⟨o', ho', hc'⟩ := hM k hm
      rw [hk] at ho'
      obtain rfl := Option.some.inj ho'
      rw [hc] at hc'; cases hc']
    exact hk⟩

theorem flat_at {α : Type} (en : α → List Value) (sz : Nat) (hen : ∀ a, (en a).length = sz) : ∀ (l : List α) (k : Nat) (h : k < l.length) (j : Nat), j < sz → (l.flatMap en)[k * sz + j]? = (en l[k])[j]?
  | a :: l, 0, _, j, hj => by
    rw [List.flatMap_cons, Nat.zero_mul, Nat.zero_add, List.getElem?_append_left (by rw [hen]; exact hj)]; rfl
  | a :: l, k + 1, h, j, hj => by
    rw [List.flatMap_cons, List.getElem?_append_right (by rw [hen, Nat.succ_mul]; omega), hen, show (k + 1) * sz + j - sz = k * sz + j by rw [Nat.succ_mul]; omega]
    exact flat_at en sz hen l k (by simpa using h) j hj
theorem flat_len' {α : Type} (en : α → List Value) (sz : Nat) (hen : ∀ a, (en a).length = sz) : ∀ l : List α, (l.flatMap en).length = l.length * sz
  | [] => by simp
  | a :: l => by rw [List.flatMap_cons, List.length_append, hen, flat_len' en sz hen l, List.length_cons, Nat.succ_mul]; omega
/-- a row of the call's own, as a slice of what it holds -/
theorem rowV_of_own {α : Type} {en : α → List Value} {w : World} {base e sz : Nat} {v : Value} {l : List α} (hen : ∀ a, (en a).length = sz) (h : w.ownsRow base e sz v l.length (l.flatMap en)) :
    ∃ a0 cap, v = .slice a0 l.length cap ∧ rowV w a0 l.length sz en l ∧ l.length ≤ cap ∧ cap ≤ maxLen ∧ (a0 = none → cap = 0) := by
  rcases h.2 with ⟨rfl, h0⟩ | ⟨g, cap, cur, rfl, h2, h3, h4, h5, h6, h7⟩
  · have e : l = [] := List.eq_nil_of_length_eq_zero h0
    subst e
    exact ⟨none, 0, rfl, ⟨rfl, .inl rfl⟩, Nat.le_refl _, Nat.zero_le _, fun _ => rfl⟩
  · refine ⟨some ⟨g, 0, none⟩, cap, rfl, ⟨rfl, .inr ⟨g, 0, rfl, (Array.getElem?_eq_some_iff.1 h3).1, fun k hk j hj => ?_⟩⟩, h4, h5, fun e => by cases e⟩
    rw [cell_of_row w g _ cur _ _ h3, ← flat_at en sz hen l k hk j hj, ← h7, Nat.zero_add, List.getElem?_take, if_pos (by
      calc k * sz + j < k * sz + sz := by omega
        _ = (k + 1) * sz := by rw [Nat.succ_mul]
        _ ≤ l.length * sz := Nat.mul_le_mul_right _ hk)]
    simp
end Go.Proofs.Ytjpgabpicfcapaa
